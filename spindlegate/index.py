"""The index: what the records of a set say of each topic, and which of them are needed."""

from spindlegate.bounds import is_whole
from spindlegate.errors import NotValid
from spindlegate.records import each_once, effects

# The topics that have no namespace.
HOST_TOPICS = ("host", "told")


class Rows:
    """The rows of the topics of a set of records; a row is a tuple (order, value)."""

    def __init__(self, records):
        self.ordered = each_once(records)
        # A view is known by its order number; that of the present is greater than all orders.
        self.present = self.ordered[-1][0] + 1 if self.ordered else 1
        self._by_topic = {}
        # For each namespace the order of the first record that belongs to it.
        self._begins = {}
        for record in self.ordered:
            for topic, value in effects(record):
                self._by_topic.setdefault(topic, []).append((record[0], value))
                if topic[0] not in HOST_TOPICS:
                    self._begins.setdefault(topic[1], record[0])
        self._snapshots = {namespace: [] for namespace in self._begins}
        for topic in self._by_topic:
            if topic[0] == "snap" and self._snapshot_exists(topic):
                self._snapshots[topic[1]].append(topic[2])

    def topics(self):
        """Return the list of the topics that have rows."""
        return list(self._by_topic)

    def all_of(self, topic):
        """Return the list of the rows of a topic in ascending order."""
        return list(self._by_topic.get(topic, []))

    def last_shown(self, topic, number):
        """Return the last row of a topic that counts in a view; None if there is none or it is hidden."""
        counting = [row for row in self._by_topic.get(topic, []) if row[0] < number]
        if not counting or self._is_hidden(topic, counting[-1][0], number):
            return None
        return counting[-1]

    def snapshots(self, namespace):
        """Return the list of the numbers of the snapshots that exist, in ascending order."""
        return sorted(self._snapshots.get(namespace, []))

    def begins(self, namespace):
        """Return the order of the first record that belongs to a namespace."""
        return self._begins[namespace]

    def _is_hidden(self, topic, order, number):
        """Return True if a row with this order is hidden at an order number."""
        if topic[0] in HOST_TOPICS:
            return False
        return any([order < gone < number for gone, _ in self._by_topic.get(("gone", topic[1]), [])])

    def _snapshot_exists(self, topic):
        row = self.last_shown(topic, self.present)
        return row is not None and row[1] is not None


def value_at(records, topic, snapshot):
    """Return the value of a topic in a view: the present if the snapshot is None."""
    rows = Rows(records)
    row = rows.last_shown(topic, rows.present if snapshot is None else _number_of(rows, snapshot))
    return None if row is None else row[1]


def snapshots_of(records, namespace):
    """Return the list of the numbers of the snapshots of a namespace that exist, in ascending order."""
    return Rows(records).snapshots(namespace)


def live_records(records):
    """Return the list of the live records in ascending order."""
    rows = Rows(records)
    live = {}
    for topic in rows.topics():
        for order in _live_orders(rows, topic):
            live[order] = True
    return [record for record in rows.ordered if record[0] in live]


def core(records):
    """Return the list of the records of the core in ascending order."""
    left = each_once(records)
    live = live_records(left)
    # What was live only because of records that are left out now need not be live any more.
    while len(live) < len(left):
        left = live
        live = live_records(left)
    return left


def shared_places(records):
    """Return the list of the shared places, tuples (namespace, place), in ascending order."""
    rows = Rows(records)
    return sorted([topic[1:] for topic in rows.topics() if topic[0] == "place" and _is_shared(rows, topic)])


def need(records):
    """Return the need of a set of records."""
    return len(core(records)) + len(shared_places(records))


def _number_of(rows, snapshot):
    """Return the number of a snapshot, which must exist."""
    namespace, number = snapshot
    if not is_whole(namespace) or not is_whole(number) or number not in rows.snapshots(namespace):
        raise NotValid()
    return number


def _live_orders(rows, topic):
    """Return the orders of the records that this topic makes live; one may occur several times."""
    all_rows = rows.all_of(topic)
    first, _ = all_rows[0]
    last, _ = all_rows[-1]
    if topic[0] == "host":
        return [last]
    if topic[0] == "gone":
        # It is needed only as long as there is something that it can hide.
        return [last] if rows.begins(topic[1]) < last else []
    shown = [rows.last_shown(topic, number) for number in _views(rows, topic)]
    return [row[0] for row in shown if row is not None and (row[1] is not None or row[0] != first)]


def _views(rows, topic):
    """Return the order numbers of the views in which a topic is looked at."""
    if topic[0] == "place":
        return [rows.present, *rows.snapshots(topic[1])]
    return [rows.present]


def _is_shared(rows, topic):
    """Return True if the present value of a place is also that of a snapshot."""
    row = rows.last_shown(topic, rows.present)
    if row is None or row[1] is None:
        return False
    return any([number > row[0] for number in rows.snapshots(topic[1])])
