"""The subsystem: it carries out the commands of the hosts, one after the other, and answers each letter with one."""

from spindlegate.bounds import is_at_least, is_between, is_whole
from spindlegate.errors import NotValid
from spindlegate.fences import changes_nothing, holder_way, key_of, refusal
from spindlegate.records import HOSTS, NAMESPACES, PLACES
from spindlegate.sessions import Sessions
from spindlegate.state import read_cell, read_snapshot, space_of

# The names of the parts of each command behind its word, by which their bounds are looked up.
PARTS = {
    "make": ("namespace", "size"),
    "remove": ("namespace",),
    "write": ("namespace", "place", "value"),
    "trim": ("namespace", "place"),
    "read": ("namespace", "place"),
    "snap": ("namespace",),
    "view": ("namespace", "snapshot", "place"),
    "drop": ("namespace", "snapshot"),
    "register": ("namespace",),
    "leave": ("namespace",),
    "reserve": ("namespace", "way"),
    "release": ("namespace",),
    "preempt": ("namespace", "victim"),
    "flush": (),
}
# The commands that add no record, whatever the state is.
RECORDLESS = ("read", "view", "flush")
# The commands that last before they are answered with "ok".
FLUSHED = ("leave", "register", "reserve", "release", "preempt", "flush")


class Subsystem:
    """Carries out the commands of one run of power, over a store."""

    def __init__(self, store, run):
        self.store = store
        self.run = run
        self.sessions = Sessions(store.state["marks"])
        self._rows = []
        # For each host the order behind its last command, which is told again whenever its answer is.
        self._orders = {}

    def carry_out(self, letter):
        """Carry out a letter of a host; return the answering letter."""
        if not _is_letter(letter):
            raise NotValid()
        if letter[0] == "connect":
            _, host, number = letter
            return self._answer_connect(host, number)
        _, host, session, counter, key, command = letter
        return self._answer_command(host, session, counter, key, command)

    def rows(self):
        """Return the list of the commands and connects that were carried out, in their order."""
        return list(self._rows)

    def _answer_connect(self, host, number):
        word = self.sessions.connecting(host, number)
        if word == "old":
            return ("no", host, number, 0, "old", self.run)
        if word == "new":
            self._begin_session(host, number)
        _, _, _, told = self.sessions.mark_of(host)
        return ("connected", host, number, told, self.store.state["order"])

    def _begin_session(self, host, number):
        told = self.sessions.next_told(host)
        # The record goes first: if the power fails before it is added, nothing has been carried out.
        order = self.store.add("mark", host, number, 0, (told,))
        self.sessions.begin(host, number)
        self._rows.append((order, host, number, 0, None, ("connect",), ("ok", told)))
        self.store.flush()

    def _answer_command(self, host, session, counter, key, command):
        word = self.sessions.kind_of(host, session, counter)
        if word not in ("again", "next"):
            return ("no", host, session, counter, word, self.run)
        if word == "next":
            self._carry_out_next(host, session, counter, key, command)
        answer = self.sessions.kept_answer(host, session, counter)
        return ("answer", host, session, counter, answer, self._orders[host])

    def _carry_out_next(self, host, session, counter, key, command):
        answer, fields = answer_due(self.store.state, host, key, command, self.store.next_order())
        if fields is not None:
            if self.store.fits(command[0], host, session, counter, fields):
                # The record goes first: if the power fails before it is added, nothing has been carried out.
                self.store.add(command[0], host, session, counter, fields)
            else:
                answer = ("room", None)
        order = self.store.state["order"]
        self.sessions.keep(host, answer)
        self._orders[host] = order
        self._rows.append((order, host, session, counter, key, command, answer))
        if answer[0] == "ok" and command[0] in FLUSHED:
            self.store.flush()


def is_command(value):
    """Return True if the value, which may be anything, is a command within its bounds."""
    if not isinstance(value, tuple) or not value or not isinstance(value[0], str) or value[0] not in PARTS:
        return False
    names = PARTS[value[0]]
    if len(value) != 1 + len(names):
        return False
    return all([_is_part(name, part) for name, part in zip(names, value[1:])])


def answer_due(state, host, key, command, order):
    """Return the answer of a command in a state, if its record fits and has this order, and the record's fields."""
    word = _refusal_due(state, host, key, command)
    if word != "":
        return ((word, None), None)
    return (("ok", _value_due(state, host, command, order)), _fields_due(state, host, command))


def namespace_of(command):
    """Return the namespace of a command, or None for a flush."""
    return None if command[0] == "flush" else command[1]


def _is_letter(value):
    """Return True if the value is a letter of a host, with all of its parts within their bounds."""
    if not isinstance(value, tuple) or len(value) < 2 or not is_between(value[1], 0, HOSTS - 1):
        return False
    match value:
        case ("connect", _, number):
            return is_at_least(number, 1)
        case ("do", _, session, counter, key, command):
            if not is_at_least(session, 1) or not is_at_least(counter, 1):
                return False
            return (key is None or is_at_least(key, 1)) and is_command(command)
    return False


def _is_part(name, value):
    """Return True if the value is within the bounds of the part with this name."""
    if name == "namespace":
        return is_between(value, 1, NAMESPACES)
    if name == "size":
        return is_between(value, 1, PLACES)
    if name == "place":
        return is_between(value, 0, PLACES - 1)
    if name == "snapshot":
        return is_at_least(value, 1)
    if name == "victim":
        return is_between(value, 0, HOSTS - 1)
    if name == "way":
        return isinstance(value, str) and value in ("write", "alone")
    return is_whole(value)


def _refusal_due(state, host, key, command):
    """Return the word with which a command is refused in a state, whatever room there is; "" if it is not."""
    word = command[0]
    namespace = namespace_of(command)
    if word == "flush":
        return ""
    if word == "make":
        return "exists" if namespace in state["spaces"] else ""
    if namespace not in state["spaces"]:
        return "none"
    size, _, fence = space_of(state, namespace)
    by_fence = refusal(fence, host, key, command)
    if by_fence != "":
        return by_fence
    if word in ("view", "drop") and (namespace, command[2]) not in state["snaps"]:
        return "none"
    if "place" in PARTS[word] and _part_of(command, "place") >= size:
        return "place"
    if word == "remove" and namespace in [name[0] for name in state["snaps"]]:
        return "held"
    return ""


def _part_of(command, name):
    return command[1 + PARTS[command[0]].index(name)]


def _value_due(state, host, command, order):
    """Return the value of the answer "ok" to a command."""
    match command:
        case ("read", namespace, place):
            return read_cell(state, namespace, place)
        case ("view", namespace, snapshot, place):
            return read_snapshot(state, namespace, snapshot, place)
        case ("snap", _):
            return order
        case ("register", namespace):
            _, _, fence = space_of(state, namespace)
            present = key_of(fence, host)
            return order if present is None else present
    return None


def _fields_due(state, host, command):
    """Return the fields of the record that a command adds, None if it adds none."""
    word = command[0]
    if word == "make":
        return command[1:]
    if word in RECORDLESS or (word == "trim" and read_cell(state, command[1], command[2]) is None):
        return None
    _, _, fence = space_of(state, command[1])
    if changes_nothing(fence, host, command):
        return None
    match command:
        case ("leave", namespace):
            return (namespace, holder_way(fence, host) is not None)
        case ("preempt", namespace, victim):
            return (namespace, victim, holder_way(fence, victim))
    return command[1:]
