"""The log: it keeps records on the pages of a flash, one behind the other."""

from spindlegate.bounds import is_between
from spindlegate.errors import BadFlash, NoRoom, NotValid
from spindlegate.flash import PAGES, first_erased
from spindlegate.records import each_once, is_record


class Log:
    """The log of a flash; it answers from memory what the flash holds."""

    def __init__(self, flash):
        self.flash = flash
        self._contents = [_read_block(flash, block) for block in range(flash.blocks)]
        if len(self._blocks_that_are("open")) > 1:
            raise BadFlash()

    def append(self, record, is_copy):
        """Program a record on the next page."""
        if self.room(is_copy) == 0:
            raise NoRoom()
        block = self._next_block()
        page = first_erased(self._contents[block])
        # The flash goes first: if it raises, the memory has not changed.
        self.flash.program(block, page, record)
        self._contents[block][page] = record

    def room(self, is_copy):
        """Return how many records can be appended without erasing."""
        free = len(self.free_blocks())
        if not is_copy and free == 0:
            return 0
        # One free block belongs to the collector, which appends copies only.
        usable = free if is_copy else free - 1
        begun = [PAGES - first_erased(self.pages(block)) for block in self._blocks_that_are("open")]
        return sum(begun) + PAGES * usable

    def erase(self, block):
        """Erase a closed block."""
        if self.state(block) != "closed":
            raise NotValid()
        self.flash.erase(block)
        self._contents[block] = [None] * PAGES

    def state(self, block):
        """Return "free", "open" or "closed"."""
        page = first_erased(self.pages(block))
        if page == 0:
            return "free"
        if page == PAGES:
            return "closed"
        return "open"

    def free_blocks(self):
        """Return the list of the free blocks in ascending order."""
        return self._blocks_that_are("free")

    def closed_blocks(self):
        """Return the list of the closed blocks in ascending order."""
        return self._blocks_that_are("closed")

    def pages(self, block):
        """Return the list of the pages of a block."""
        if not is_between(block, 0, self.flash.blocks - 1):
            raise NotValid()
        return list(self._contents[block])

    def records(self):
        """Return the records in ascending order, each once."""
        return each_once([page for pages in self._contents for page in pages if is_record(page)])

    def top(self):
        """Return the greatest order, 0 if there is no record."""
        records = self.records()
        return records[-1][0] if records else 0

    def holders(self, record):
        """Return the blocks that have this record, in ascending order."""
        return [block for block in range(self.flash.blocks) if record in self._contents[block]]

    def _blocks_that_are(self, state):
        return [block for block in range(self.flash.blocks) if self.state(block) == state]

    def _next_block(self):
        """Return the open block, or else the free one that is to be opened."""
        begun = self._blocks_that_are("open")
        if begun:
            return begun[0]
        _, least_worn = min([(self.flash.wear(block), block) for block in self.free_blocks()])
        return least_worn


def _read_block(flash, block):
    return [flash.read(block, page) for page in range(PAGES)]
