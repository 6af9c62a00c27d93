"""What several tests need: records, filled flashes, and a call that must be refused."""

from spindlegate.errors import NotValid, PowerOff
from spindlegate.flash import PAGES, Flash
from spindlegate.log import Log
from spindlegate.records import make_record

# Values that are no integers, in the place of one.
NO_INTEGERS = (True, False, None, "1", 1.0, (), [])

TOLD = (3, 2, ("ok", None))

# For each kind: fields that are within their bounds.
FIELDS = {
    "mark": (TOLD,),
    "make": (7, 64),
    "remove": (7,),
    "write": (7, 5, 70),
    "trim": (7, 5),
    "snap": (7,),
    "drop": (7, 4),
    "register": (7,),
    "leave": (7, True),
    "reserve": (7, "alone"),
    "release": (7,),
    "preempt": (7, 3, "write"),
}


def counter_of(kind):
    return 0 if kind == "mark" else 3


def a_record(order):
    """A record with this order."""
    return (order, "write", 1, 2, order, 3, order % 64, -order)


def of_host(host, *rows):
    """Records of one host, the orders from 1 on: each row is a kind and its fields."""
    return [make_record(order, row[0], host, 1, 0 if row[0] == "mark" else order, row[1:])
            for order, row in enumerate(rows, 1)]


def filled_flash(image):
    """A flash of 8 blocks: for each block of the image a list of pages, the rest erased; wear 0."""
    flash = Flash(8)
    for block, pages in enumerate(image):
        for page, content in enumerate(pages):
            if content == "torn":
                flash.fail_after(0)
                expect_power_off(flash.program, block, page, (0,))
                flash.cut(2)
            elif content is not None:
                flash.program(block, page, content)
    return flash


def full_block(first):
    """The pages of a block that is full of the records from an order on."""
    return [a_record(first + page) for page in range(PAGES)]


def filled_log(image):
    return Log(filled_flash(image))


def expect_power_off(call, *arguments):
    try:
        call(*arguments)
    except PowerOff:
        return
    raise AssertionError("the power did not fail")


def refuses(call, *arguments):
    """True if the call raises NotValid."""
    try:
        call(*arguments)
    except NotValid:
        return True
    return False
