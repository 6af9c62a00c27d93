"""The collector: it copies what is needed out of closed blocks and erases them."""

from spindlegate.errors import NoRoom
from spindlegate.flash import PAGES
from spindlegate.index import live_records
from spindlegate.records import each_once


def needed_records(log, block):
    """Return the list of the records of the needed pages of a block, in ascending order, each once."""
    return each_once(_needed_pages(log, block, live_records(log.records())))


def victim(log):
    """Return the block that a round of collecting takes, or None if no block is closed."""
    live = live_records(log.records())
    ranks = [(len(_needed_pages(log, block, live)), log.flash.wear(block), block) for block in log.closed_blocks()]
    if not ranks:
        return None
    _, _, block = min(ranks)
    return block


def collect(log, many):
    """Make rounds until many records that are no copies can be appended; return the blocks that were erased."""
    erased = []
    while log.room(False) < many:
        block = victim(log)
        if block is None:
            raise NoRoom()
        if _empties(log, block):
            erased.append(block)
    return erased


def _empties(log, block):
    """Make a round with a closed block; return True if it ends with erasing."""
    pages = _needed_pages(log, block, live_records(log.records()))
    # A round that can neither copy nor erase would be made again and again.
    if len(pages) == PAGES or (pages and log.room(True) == 0):
        raise NoRoom()
    for record in each_once(pages):
        if log.room(True) == 0:
            return False
        log.append(record, True)
    log.erase(block)
    return True


def _needed_pages(log, block, live):
    """Return the needed pages of a block; a record that lies twice on it has two of them."""
    return [page for page in log.pages(block) if page in live and log.holders(page) == [block]]
