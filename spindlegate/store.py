"""The store: the records of a flash, and those that wait in memory until they are flushed."""

from spindlegate.collector import collect
from spindlegate.flash import PAGES
from spindlegate.index import need
from spindlegate.log import Log
from spindlegate.records import each_once, make_record
from spindlegate.state import apply_record, fold

MOST_WAITING = 8

# The blocks that are never counted on, so that collecting always wins a page.
SPARE_BLOCKS = 4
# What a record that fits leaves of the limit, for the kinds that are never refused.
KEPT_ROOM = 9
NEVER_REFUSED = ("trim", "drop", "remove", "release", "leave", "preempt", "mark")


class Store:
    """The records of a flash and those that wait, and the state that all of them lead to."""

    def __init__(self, flash):
        self.flash = flash
        self.log = Log(flash)
        self.state = fold(self.log.records())
        self.waiting = []

    def next_order(self):
        """Return the order that the next record gets."""
        return self.state["order"] + 1

    def lasting_order(self):
        """Return the greatest order on the flash, 0 if there is no record."""
        return self.log.top()

    def records(self):
        """Return the list of all records, those that wait too, in ascending order, each once."""
        return each_once([*self.log.records(), *self.waiting])

    def limit(self):
        """Return the need that is never exceeded."""
        return (self.flash.blocks - SPARE_BLOCKS) * PAGES

    def need(self):
        """Return the need of all records."""
        return need(self.records())

    def need_with(self, kind, host, session, counter, fields):
        """Return the need with one more record, which gets the next order."""
        record = make_record(self.next_order(), kind, host, session, counter, fields)
        return need([*self.records(), record])

    def fits(self, kind, host, session, counter, fields):
        """Return True if a record of this kind is never refused, or if there is room for this one."""
        if kind in NEVER_REFUSED:
            return True
        return self.need_with(kind, host, session, counter, fields) <= self.limit() - KEPT_ROOM

    def add(self, kind, host, session, counter, fields):
        """Let a record wait, also if it does not fit; return its order."""
        record = make_record(self.next_order(), kind, host, session, counter, fields)
        if len(self.waiting) == MOST_WAITING:
            self.flush()
        self.waiting = [*self.waiting, record]
        self.state = apply_record(self.state, record)
        return record[0]

    def flush(self):
        """Program all records that wait; if the power fails, the store is not used any more."""
        collect(self.log, len(self.waiting))
        for record in self.waiting:
            self.log.append(record, False)
        self.waiting = []
