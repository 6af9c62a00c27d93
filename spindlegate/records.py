"""The records of the log: what one command changed, each with its order number."""

from spindlegate.bounds import is_at_least, is_between, is_whole
from spindlegate.errors import NotValid

KINDS = (
    "mark",
    "make",
    "remove",
    "write",
    "trim",
    "snap",
    "drop",
    "register",
    "leave",
    "reserve",
    "release",
    "preempt",
)
HOSTS = 4
NAMESPACES = 8
PLACES = 64

# The names of the fields of each kind, by which their bounds are looked up.
FIELDS = {
    "mark": ("told",),
    "make": ("namespace", "size"),
    "remove": ("namespace",),
    "write": ("namespace", "place", "value"),
    "trim": ("namespace", "place"),
    "snap": ("namespace",),
    "drop": ("namespace", "snapshot"),
    "register": ("namespace",),
    "leave": ("namespace", "held"),
    "reserve": ("namespace", "way"),
    "release": ("namespace",),
    "preempt": ("namespace", "victim", "way or none"),
}

# The parts ahead of the fields: order, kind, host, session, counter.
HEAD = 5


def make_record(order, kind, host, session, counter, fields):
    """Return the record with these parts; raise NotValid if they make none."""
    if not isinstance(fields, (list, tuple)):
        raise NotValid()
    record = (order, kind, host, session, counter, *fields)
    if not is_record(record):
        raise NotValid()
    return record


def is_record(value):
    """Return True if the value, which may be anything, is a record."""
    if not isinstance(value, tuple) or len(value) < HEAD:
        return False
    order, kind, host, session, counter = value[:HEAD]
    if not _is_kind(kind) or len(value) != HEAD + field_count(kind):
        return False
    if not is_at_least(order, 1) or not is_between(host, 0, HOSTS - 1):
        return False
    if not is_at_least(session, 1) or not _is_counter(counter, kind):
        return False
    return all([_is_field(name, field, order) for name, field in zip(FIELDS[kind], value[HEAD:])])


def field_count(kind):
    """Return the number of fields of a kind."""
    if not _is_kind(kind):
        raise NotValid()
    return len(FIELDS[kind])


def fields_of(record):
    """Return the tuple of the fields of a record."""
    return record[HEAD:]


def answer_of(record):
    """Return the answer that the host gets for the command of a record."""
    order, kind = record[:2]
    if kind == "mark":
        return None
    if kind in ("snap", "register"):
        return ("ok", order)
    return ("ok", None)


def effects(record):
    """Return the list of the effects of a record, tuples (topic, value), in their order."""
    order, kind, host, session, counter = record[:HEAD]
    first = (("host", host), (session, counter, answer_of(record)))
    return [first] + _effects_of_kind(order, kind, host, fields_of(record))


def each_once(records):
    """Return the records of a list in ascending order, equal ones once."""
    by_order = {}
    for record in records:
        same = by_order.setdefault(record[0], [])
        if record not in same:
            same.append(record)
    return [record for order in sorted(by_order) for record in by_order[order]]


def _effects_of_kind(order, kind, host, fields):
    """Return the effects that stand behind the one of the host."""
    match (kind, *fields):
        case ("mark", told):
            return [(("told", host), told)]
        case ("make", namespace, size):
            return [(("space", namespace), size)]
        case ("remove", namespace):
            return [(("gone", namespace), order)]
        case ("write", namespace, place, content):
            return [(("place", namespace, place), content)]
        case ("trim", namespace, place):
            return [(("place", namespace, place), None)]
        case ("snap", namespace):
            return [(("snap", namespace, order), order)]
        case ("drop", namespace, snapshot):
            return [(("snap", namespace, snapshot), None)]
        case ("register", namespace):
            return [(("key", namespace, host), order)]
        case ("leave", namespace, False):
            return [(("key", namespace, host), None)]
        case ("leave", namespace, True):
            return [(("key", namespace, host), None), (("hold", namespace), None)]
        case ("reserve", namespace, way):
            return [(("hold", namespace), (host, way))]
        case ("release", namespace):
            return [(("hold", namespace), None)]
        case ("preempt", namespace, victim, None):
            return [(("key", namespace, victim), None)]
        case ("preempt", namespace, victim, way):
            return [(("key", namespace, victim), None), (("hold", namespace), (host, way))]


def _is_kind(value):
    return isinstance(value, str) and value in KINDS


def _is_counter(value, kind):
    # A mark is no command of its session: it stands ahead of the first one.
    if kind == "mark":
        return is_between(value, 0, 0)
    return is_at_least(value, 1)


def _is_field(name, value, order):
    """Return True if the value is within the bounds of the field with this name."""
    if name == "namespace":
        return is_between(value, 1, NAMESPACES)
    if name == "place":
        return is_between(value, 0, PLACES - 1)
    if name == "value":
        return is_whole(value)
    if name == "size":
        return is_between(value, 1, PLACES)
    if name == "snapshot":
        return is_between(value, 1, order - 1)
    if name == "victim":
        return is_between(value, 0, HOSTS - 1)
    if name == "held":
        return isinstance(value, bool)
    if name == "told":
        return value is None or _is_told(value)
    if name == "way or none" and value is None:
        return True
    return isinstance(value, str) and value in ("write", "alone")


def _is_told(value):
    """Return True if the value is a tuple (session, counter, answer)."""
    if not isinstance(value, tuple) or len(value) != 3:
        return False
    session, counter, answer = value
    if not is_at_least(session, 1) or not is_at_least(counter, 0):
        return False
    return answer is None or (isinstance(answer, tuple) and len(answer) == 2)
