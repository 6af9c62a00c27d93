"""Points [63] to [65]: valid images, their records, state and need, and pages to spare."""

import copy
import unittest

from counting import Counting
from histories import History
from samples import FIELDS, counter_of, expect_power_off

from spindlegate.checks import check, image_need, image_records, spare_pages
from spindlegate.errors import BadFlash, PowerOff
from spindlegate.flash import Flash
from spindlegate.index import live_records, need
from spindlegate.records import KINDS, make_record
from spindlegate.state import fold, new_state
from spindlegate.store import Store

NEW = (0, [None] * 8)
FUNCTIONS = (check, image_records, image_need, spare_pages)
# The example of the interface of state.py.
RECORDS = [
    (1, "mark", 0, 1, 0, None), (2, "make", 0, 1, 1, 7, 64), (3, "write", 0, 1, 2, 7, 5, 70), (4, "snap", 0, 1, 3, 7),
    (5, "trim", 0, 1, 4, 7, 5),
]


def block(*pages):
    """A block whose first pages are these."""
    return (0, [*pages, *[None] * 8][:8])


def image_of(*blocks):
    return [*blocks, *[copy.deepcopy(NEW) for _ in range(8 - len(blocks))]]


def image_with(records):
    """An image that has these records, in this order, and no others."""
    blocks = [block(*records[at:at + 8]) for at in range(0, len(records), 8)]
    return image_of(*blocks)


def of_hosts(*rows):
    """Records with the orders from 1 on, each of a session of its own: each row is a host, a kind and its fields."""
    return [make_record(order, row[1], row[0], order, 0 if row[1] == "mark" else 1, row[2:])
            for order, row in enumerate(rows, 1)]


def is_bad(image):
    """True if each function refuses the image, False if none does."""
    found = []
    for function in FUNCTIONS:
        try:
            function(image)
            found.append(False)
        except BadFlash:
            found.append(True)
    assert len(set(found)) == 1, found
    return found[0]


class ValidTest(unittest.TestCase):
    """Points [63] and [65]."""

    def test_an_image_without_records(self):
        for blocks in (8, 24):
            image = Flash(blocks).image()
            self.assertEqual((check(image), image_records(image)), (new_state(), []))
            self.assertEqual((image_need(image), spare_pages(image)), (0, 8 * blocks))
        torn = image_of((1, ["torn"] * 8), block("torn", "torn"))
        self.assertEqual((check(torn), image_records(torn), spare_pages(torn)), (new_state(), [], 64))

    def test_the_records(self):
        image = image_of(block("torn", *RECORDS[3:], *RECORDS[:3], RECORDS[4], RECORDS[0]), block(*RECORDS[:2], "torn"))
        self.assertEqual(image_records(image), RECORDS)
        self.assertEqual(check(image), fold(RECORDS))
        self.assertEqual((image_need(image), spare_pages(image)), (4, 64 - 4))

    def test_the_need_is_that_of_the_core_and_of_shared_places(self):
        image = image_with(RECORDS[:4])
        # Live are the make, the write and the snapshot, which is the last one of the host, too; one place is shared.
        self.assertEqual((image_need(image), spare_pages(image)), (4, 64 - 3))
        trimmed = image_with([RECORDS[1], RECORDS[2], (4, "trim", 0, 1, 3, 7, 5), (5, "mark", 0, 2, 0, None)])
        # The trim hides a write on the flash, so it is live, but it is not in the core.
        self.assertEqual((image_need(trimmed), spare_pages(trimmed)), (2, 64 - 3))

    def test_the_image_that_is_passed_stays(self):
        for image in (image_with(RECORDS), image_of(block(RECORDS[0]), block(RECORDS[1])), image_with([RECORDS[2]])):
            before = copy.deepcopy(image)
            is_bad(image)
            self.assertEqual(image, before)

    def test_returned_lists_have_nothing_to_do_with_the_image(self):
        image = image_with(RECORDS)
        image_records(image).clear()
        check(image)["spaces"].clear()
        self.assertEqual((image_records(image), check(image)), (RECORDS, fold(RECORDS)))


class ImageTest(unittest.TestCase):
    """Point [64]: what `flash_from` accepts, open blocks, and what pages hold."""

    def test_what_is_no_image(self):
        for image in (None, (), 8, "torn", [], [NEW] * 7, [NEW] * 25, tuple([NEW] * 8), [[0, [None] * 8]] * 8, [None] * 8,
                      {}, [NEW] * 7 + [(0, [None] * 7)], [NEW] * 7 + [(-1, [None] * 8)], [NEW] * 7 + [(0, (None,) * 8)],
                      [NEW] * 7 + [(True, [None] * 8)], [NEW] * 7 + [(0, [None] * 7 + ["Torn"])],
                      [NEW] * 7 + [(0, [None] * 7 + [RECORDS[0]])], [NEW] * 7 + [(0, [list(RECORDS[0])] * 8)]):
            self.assertTrue(is_bad(image), image)
        for image in ([NEW] * 8, [NEW] * 24, [NEW] * 7 + [(9, ["torn"] * 8)], [NEW] * 7 + [(0, [RECORDS[0]] * 8)]):
            self.assertFalse(is_bad(image), image)

    def test_open_blocks(self):
        self.assertFalse(is_bad(image_of(block(*RECORDS[:2]), block(*RECORDS[2:], *["torn"] * 5))))
        self.assertTrue(is_bad(image_of(block(*RECORDS[:2]), block(*RECORDS[2:]))))
        self.assertTrue(is_bad(image_of(block("torn"), block(*RECORDS))))
        self.assertFalse(is_bad(image_of(NEW, block(*RECORDS))))

    def test_pages_that_hold_no_record(self):
        for page in ((), (5,), (7, "x"), RECORDS[2][:-1], (*RECORDS[2], 1), (3, "write", 4, 1, 2, 7, 5, 70),
                     (3, "write", 0, 1, 2, 9, 5, 70), (3, "write", 0, 1, 2, 7, 5, True), (3, "read", 0, 1, 2, 7, 5),
                     (0, "write", 0, 1, 2, 7, 5, 70), ("3", "write", 0, 1, 2, 7, 5, 70), ("torn",), (None,)):
            self.assertTrue(is_bad(image_with([*RECORDS[:2], page])), page)
            self.assertTrue(is_bad(image_with([page])), page)
        self.assertFalse(is_bad(image_with([*RECORDS[:2], (3, "write", 0, 1, 2, 7, 5, 70)])))

    def test_records_with_the_same_order(self):
        other = (3, "write", 0, 1, 2, 7, 5, 71)
        self.assertFalse(is_bad(image_with([*RECORDS, RECORDS[2]])))
        self.assertTrue(is_bad(image_with([*RECORDS, other])))
        # They may also lie on two blocks.
        filled = block(*RECORDS, "torn", "torn", "torn")
        self.assertFalse(is_bad(image_of(filled, block(RECORDS[2]))))
        self.assertTrue(is_bad(image_of(filled, block(other))))
        self.assertTrue(is_bad(image_of(filled, block((3, "write", 1, 1, 2, 7, 5, 70)))))


class CountersTest(unittest.TestCase):
    """Point [64]: the pairs (session, counter) of each host."""

    def of_pairs(self, *pairs):
        """An image in which the records of host 1 have these pairs."""
        kinds = ["mark" if counter == 0 else "snap" for _, counter in pairs]
        return image_with([(1, "make", 0, 1, 1, 7, 4)] + [
            (order, kind, 1, *pair, None if kind == "mark" else 7)
            for order, (kind, pair) in enumerate(zip(kinds, pairs), 2)])

    def test_they_ascend_strictly(self):
        for pairs in (((1, 0), (1, 1)), ((1, 1), (1, 2)), ((1, 1), (1, 9)), ((1, 9), (2, 0)), ((1, 9), (2, 1)),
                      ((3, 0), (4, 0)), ((1, 9), (7, 3), (7, 4), (8, 0))):
            self.assertFalse(is_bad(self.of_pairs(*pairs)), pairs)
        for pairs in (((1, 1), (1, 1)), ((1, 2), (1, 1)), ((2, 1), (1, 2)), ((2, 0), (1, 9)), ((3, 0), (3, 0)),
                      ((1, 1), (1, 0)), ((1, 9), (7, 3), (7, 3)), ((1, 9), (7, 3), (1, 9)), ((1, 1), (2, 5), (2, 4))):
            self.assertTrue(is_bad(self.of_pairs(*pairs)), pairs)

    def test_in_the_order_of_the_records(self):
        self.assertFalse(is_bad(image_with(RECORDS[::-1])))
        self.assertFalse(is_bad(image_with([(10, "make", 0, 1, 2, 7, 4), (9, "mark", 0, 1, 0, None)])))

    def test_hosts_have_nothing_to_do_with_each_other(self):
        self.assertFalse(is_bad(image_with([
            (1, "make", 0, 5, 5, 7, 4), (2, "snap", 1, 1, 1, 7), (3, "snap", 2, 5, 5, 7), (4, "snap", 0, 5, 6, 7),
            (5, "snap", 1, 1, 2, 7)])))
        self.assertTrue(is_bad(image_with([
            (1, "make", 0, 5, 5, 7, 4), (2, "snap", 1, 1, 1, 7), (3, "snap", 2, 5, 5, 7), (4, "snap", 0, 5, 5, 7),
            (5, "snap", 1, 1, 2, 7)])))


class NamespacesTest(unittest.TestCase):
    """Point [64]: namespaces that are made, and that exist."""

    def bad(self, *rows):
        return is_bad(image_with(of_hosts(*[(0, *row) for row in rows])))

    def test_a_namespace_is_not_made_while_it_exists(self):
        make, remove, other = ("make", 7, 4), ("remove", 7), ("make", 6, 4)
        self.assertFalse(self.bad(make, other))
        self.assertTrue(self.bad(make, make))
        self.assertTrue(self.bad(make, other, make))
        self.assertFalse(self.bad(make, remove, make))
        self.assertFalse(self.bad(make, remove, remove, make))
        self.assertTrue(self.bad(make, remove, make, make))
        self.assertTrue(self.bad(remove, make, make))

    def test_unless_there_is_a_remove_with_a_greater_order_than_both(self):
        make, remove = ("make", 7, 4), ("remove", 7)
        self.assertFalse(self.bad(make, make, remove))
        self.assertFalse(self.bad(make, make, make, remove))
        self.assertFalse(self.bad(make, make, remove, make))
        self.assertTrue(self.bad(make, make, remove, make, make))
        self.assertFalse(self.bad(make, make, remove, make, make, remove))
        self.assertTrue(self.bad(make, make, ("remove", 6)))

    def test_a_record_is_of_a_namespace_that_exists(self):
        make, remove = (0, "make", 7, 4), (0, "remove", 7)
        others = [(0, "make", 6, 4), (0, "write", 6, 1, 1), (0, "snap", 6), (0, "trim", 6, 1)]
        for kind in KINDS:
            if kind in ("mark", "make", "remove"):
                continue
            row = (1, kind, *FIELDS[kind])
            # The snapshot of a drop is 4.
            self.assertTrue(is_bad(image_with(of_hosts(*others, row))), kind)
            self.assertFalse(is_bad(image_with(of_hosts(*others, make, row))), kind)
            self.assertTrue(is_bad(image_with(of_hosts(*others, make, remove, row))), kind)
            self.assertFalse(is_bad(image_with(of_hosts(*others, make, remove, row, remove))), kind)
            self.assertFalse(is_bad(image_with(of_hosts(*others, row, remove))), kind)
            self.assertTrue(is_bad(image_with(of_hosts(*others, row, make))), kind)
            self.assertTrue(is_bad(image_with(of_hosts(*others, row, (0, "remove", 6)))), kind)
            self.assertFalse(is_bad(image_with(of_hosts(*others, row, remove, make, row))), kind)
            self.assertTrue(is_bad(image_with(of_hosts(*others, row, remove, row, make))), kind)

    def test_the_first_record_of_all(self):
        for row in (("write", 7, 5, 1), ("trim", 7, 5), ("snap", 7), ("register", 7), ("release", 7)):
            self.assertTrue(self.bad(row))
            self.assertFalse(self.bad(row, ("remove", 7)))

    def test_a_remove_and_a_mark_are_of_any_namespace(self):
        self.assertFalse(self.bad(("remove", 7)))
        self.assertFalse(self.bad(("remove", 7), ("remove", 7)))
        self.assertFalse(self.bad(("mark", None), ("mark", (3, 2, ("ok", None)))))

    def test_each_kind_alone(self):
        for kind in KINDS:
            image = image_with([make_record(12, kind, 1, 9, counter_of(kind), FIELDS[kind])])
            self.assertEqual(is_bad(image), kind not in ("mark", "make", "remove"), kind)


class StoreTest(unittest.TestCase):
    """Images of stores at any moment."""

    def looked_at(self, store, states):
        """The image of a store is valid, and holds the state that the store had at its lasting order."""
        image = store.flash.image()
        records = image_records(image)
        self.assertEqual(records, store.log.records())
        self.assertEqual(check(image), states[store.lasting_order()])
        self.assertEqual((image_need(image), spare_pages(image)), (need(records), 64 - len(live_records(records))))
        self.assertLessEqual(image_need(image), store.limit())

    def test_at_any_moment(self):
        for seed in range(5):
            history, store, states = History(seed, 3, 6), Store(Flash(8)), [new_state()]
            while len(states) < 200:
                record = history.propose()
                parts = (*record[1:5], record[5:])
                if store.fits(*parts):
                    store.add(*parts)
                    history.take(record)
                    states.append(history.state())
                    self.looked_at(store, states)

    def test_behind_power_cuts_in_the_middle_of_collecting(self):
        counting, failed = Counting(1), 0
        for seed in range(5):
            history, store = History(seed, 3, 6), Store(Flash(8))
            for _ in range(120):
                record = history.propose()
                parts = (*record[1:5], record[5:])
                if not store.fits(*parts):
                    continue
                before = history.state()
                history.take(record)
                while store.state["order"] == before["order"]:
                    store.add(*parts)
                    store.flash.fail_after(counting.below(6))
                    try:
                        store.flush()
                    except PowerOff:
                        failed += 1
                        store.flash.cut(counting.below(3))
                        store = Store(store.flash)
                    store.flash.fail_after(None)
                    self.assertEqual(check(store.flash.image()), store.state)
                    self.assertIn(store.state, (before, history.state()))
        self.assertGreater(failed, 50)

    def test_the_power_is_off(self):
        store = Store(Flash(8))
        store.add("mark", 0, 1, 0, (None,))
        store.add("make", 0, 1, 1, (7, 4))
        store.flash.fail_after(1)
        expect_power_off(store.flush)
        self.assertEqual(check(store.flash.image())["order"], 1)


if __name__ == "__main__":
    unittest.main()
