"""The checker: whether the image of a flash is valid, and what it holds."""

from spindlegate.errors import BadFlash, NotValid
from spindlegate.flash import PAGES, flash_from
from spindlegate.index import live_records, need
from spindlegate.log import Log
from spindlegate.records import HEAD, is_record
from spindlegate.state import fold


def check(image):
    """Return the state of a valid image."""
    return fold(image_records(image))


def image_records(image):
    """Return the records of a valid image, each once, in ascending order."""
    log = _log_of(image)
    pages = [page for block in range(log.flash.blocks) for page in log.pages(block)]
    if not all([is_record(page) for page in pages if isinstance(page, tuple)]):
        raise BadFlash()
    records = log.records()
    if not (_orders_ascend(records) and _counters_ascend(records) and _namespaces_exist(records)):
        raise BadFlash()
    return records


def image_need(image):
    """Return the need of a valid image."""
    return need(image_records(image))


def spare_pages(image):
    """Return the number of the pages of a valid image that are erased or hold no needed record."""
    records = image_records(image)
    return PAGES * len(image) - len(live_records(records))


def _log_of(image):
    """Return the log of a flash with this image."""
    try:
        flash = flash_from(image)
    except NotValid:
        raise BadFlash() from None
    return Log(flash)


def _orders_ascend(records):
    """Return True if no two records have the same order; equal ones occur once."""
    return all([before[0] < after[0] for before, after in zip(records, records[1:])])


def _counters_ascend(records):
    """Return True if the sessions and counters of each host strictly ascend."""
    last = {}
    for record in records:
        _, _, host, session, counter = record[:HEAD]
        if (session, counter) <= last.get(host, (0, 0)):
            return False
        last[host] = (session, counter)
    return True


def _namespaces_exist(records):
    """Return True if namespaces are made only while they do not exist, and used only while they do."""
    last_removes = {record[HEAD]: record[0] for record in records if record[1] == "remove"}
    existing = {}
    for record in records:
        if record[1] == "mark":
            continue
        order, kind, namespace = record[0], record[1], record[HEAD]
        exists = existing.get(namespace, False)
        # Ahead of a remove anything may be missing: what it hides can have been erased.
        if order > last_removes.get(namespace, 0) and exists == (kind == "make"):
            return False
        if kind in ("make", "remove"):
            existing[namespace] = kind == "make"
    return True
