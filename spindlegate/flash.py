"""A flash: blocks of pages that are programmed one by one and erased together."""

from spindlegate.bounds import is_at_least, is_between
from spindlegate.errors import NotValid, PowerOff

PAGES = 8
MIN_BLOCKS = 8
MAX_BLOCKS = 24
TORN = "torn"

MOST_OPERATIONS = 100000


class Flash:
    """A flash whose power can be made to fail at any operation."""

    def __init__(self, blocks):
        if not is_between(blocks, MIN_BLOCKS, MAX_BLOCKS):
            raise NotValid()
        self.blocks = blocks
        self._wears = [0] * blocks
        self._contents = [[None] * PAGES for _ in range(blocks)]
        self._powered = True
        # How many operations are still done before the power fails; None for all.
        self._remaining = None
        # The operation in which the power failed: what _carry_out takes.
        self._interrupted = None

    def read(self, block, page):
        """Return None, a tuple, or TORN."""
        self._check_page(block, page)
        self._check_power()
        return self._contents[block][page]

    def program(self, block, page, record):
        """Program the first erased page of a block with a tuple."""
        self._check_page(block, page)
        if not isinstance(record, tuple) or page != first_erased(self._contents[block]):
            raise NotValid()
        self._operate(block, page, record)

    def erase(self, block):
        """Make all pages of a block erased."""
        self._check_block(block)
        self._operate(block, None, None)

    def wear(self, block):
        """Return how often the block was erased."""
        self._check_block(block)
        return self._wears[block]

    def fail_after(self, count):
        """Let the power fail when count more operations are done; never if it is None."""
        if count is not None and not is_between(count, 0, MOST_OPERATIONS):
            raise NotValid()
        self._remaining = count

    def cut(self, choice):
        """Bring the power back; the interrupted operation was not done (0), done (1) or torn (2)."""
        if not is_between(choice, 0, 2):
            raise NotValid()
        if self._interrupted is not None and choice > 0:
            block, page, content = self._interrupted
            self._carry_out(block, page, content if choice == 1 else TORN)
        self._powered = True
        self._remaining = None
        self._interrupted = None

    def image(self):
        """Return a list with a tuple (wear, pages) for each block."""
        return [(self._wears[block], list(self._contents[block])) for block in range(self.blocks)]

    def _check_block(self, block):
        if not is_between(block, 0, self.blocks - 1):
            raise NotValid()

    def _check_page(self, block, page):
        self._check_block(block)
        if not is_between(page, 0, PAGES - 1):
            raise NotValid()

    def _check_power(self):
        if not self._powered:
            raise PowerOff()

    def _operate(self, block, page, content):
        """Carry an operation out, or keep it for the cut if the power fails in it."""
        self._check_power()
        if self._remaining == 0:
            self._powered = False
            self._interrupted = (block, page, content)
            raise PowerOff()
        if self._remaining is not None:
            self._remaining -= 1
        self._carry_out(block, page, content)

    def _carry_out(self, block, page, content):
        """Give a page its content; without a page it is an erase, which gives it to all pages."""
        if page is None:
            self._contents[block] = [content] * PAGES
            self._wears[block] += 1
        else:
            self._contents[block][page] = content


def flash_from(image):
    """Return a flash, with the power on, that has the blocks of an image."""
    if not isinstance(image, list):
        raise NotValid()
    flash = Flash(len(image))
    if not all([_is_block(entry) for entry in image]):
        raise NotValid()
    flash._wears = [entry[0] for entry in image]
    flash._contents = [list(entry[1]) for entry in image]
    return flash


def first_erased(pages):
    """Return the number of the first erased page, PAGES if there is none."""
    # Erased pages always stand behind all others, so counting them is enough.
    return PAGES - pages.count(None)


def _is_block(entry):
    """Return True if the value is what an image has for a block."""
    if not isinstance(entry, tuple) or len(entry) != 2:
        return False
    wear, pages = entry
    if not is_at_least(wear, 0) or not isinstance(pages, list) or len(pages) != PAGES:
        return False
    if not all([_is_page(page) for page in pages]):
        return False
    return None not in pages[:first_erased(pages)]


def _is_page(page):
    """Return True if the value can be what a page holds."""
    if isinstance(page, str):
        return page == TORN
    return page is None or isinstance(page, tuple)
