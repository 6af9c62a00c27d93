"""Points [12] to [16]: the log, where records go, opening, copies, and what a cut leaves."""

import unittest

from samples import NO_INTEGERS, a_record, expect_power_off, filled_flash, filled_log, full_block, refuses

from spindlegate.errors import BadFlash, NoRoom, PowerOff
from spindlegate.flash import TORN, Flash, flash_from
from spindlegate.log import Log

NEW = [None] * 8
TORN_BLOCK = [TORN] * 8


def append_all(log, orders, is_copy=False):
    for order in orders:
        log.append(a_record(order), is_copy)


def records_of(orders):
    return [a_record(order) for order in orders]


def states(log):
    return [log.state(block) for block in range(log.flash.blocks)]


def all_of(log):
    """All that a log answers."""
    blocks = range(log.flash.blocks)
    return (
        states(log), log.free_blocks(), log.closed_blocks(), [log.pages(block) for block in blocks],
        log.records(), log.top(), log.room(True), log.room(False), [log.holders(record) for record in log.records()],
    )


def worn_flash(wears):
    """A new flash whose blocks have these wears."""
    return flash_from([(wear, list(NEW)) for wear in wears])


def log_with_free(free):
    """A log of 8 blocks with no open block and so many free ones, the last ones; the records from 1 on."""
    log = Log(Flash(8))
    append_all(log, range(1, 8 * (8 - free) + 1), True)
    return log


class AppendTest(unittest.TestCase):
    def test_records_are_programmed_one_behind_the_other(self):
        log = Log(Flash(8))
        for order in range(1, 8):
            self.assertIsNone(log.append(a_record(order), False))
            self.assertEqual(log.flash.image()[0][1], records_of(range(1, order + 1)) + [None] * (8 - order))
            self.assertEqual(states(log), ["open"] + ["free"] * 7)
        log.append(a_record(8), False)
        self.assertEqual(states(log), ["closed"] + ["free"] * 7)
        log.append(a_record(9), False)
        self.assertEqual(states(log), ["closed", "open"] + ["free"] * 6)
        self.assertEqual(log.pages(1), [a_record(9), *[None] * 7])

    def test_at_most_one_block_is_open(self):
        log = Log(Flash(8))
        for order in range(1, 65):
            log.append(a_record(order), True)
            self.assertLessEqual(states(log).count("open"), 1)
        self.assertEqual(states(log), ["closed"] * 8)
        self.assertEqual(log.records(), records_of(range(1, 65)))

    def test_the_fields_and_the_flash(self):
        flash = Flash(8)
        log = Log(flash)
        self.assertIs(log.flash, flash)

    def test_records_and_copies_go_into_the_same_open_block(self):
        log = Log(Flash(8))
        append_all(log, (1, 2), False)
        append_all(log, (1, 3), True)
        append_all(log, (4,), False)
        self.assertEqual(log.pages(0)[:5], records_of((1, 2, 1, 3, 4)))

    def test_the_free_block_with_the_least_wear_is_opened(self):
        log = Log(worn_flash((3, 2, 1, 5, 1, 0, 2, 4)))
        opened = []
        for order in range(1, 65):
            before = log.free_blocks()
            log.append(a_record(order), True)
            opened += [block for block in before if log.state(block) == "open"]
        self.assertEqual(opened, [5, 2, 4, 1, 6, 0, 7, 3])

    def test_the_least_number_among_the_same_wear(self):
        for is_copy in (False, True):
            log = Log(worn_flash((1, 0, 0, 1, 0, 1, 1, 1)))
            log.append(a_record(1), is_copy)
            self.assertEqual(states(log), ["free", "open"] + ["free"] * 6)

    def test_the_wear_counts_when_the_block_is_opened(self):
        log = Log(Flash(8))
        append_all(log, range(1, 9))
        log.erase(0)
        append_all(log, range(9, 65), True)
        self.assertEqual(log.free_blocks(), [0])
        self.assertEqual(log.holders(a_record(9)), [1])

    def test_what_is_no_tuple_is_not_appended(self):
        log = Log(Flash(8))
        before = all_of(log)
        for record in (None, TORN, [1]):
            self.assertTrue(refuses(log.append, record, False))
            self.assertEqual(all_of(log), before)
        self.assertEqual(log.flash.image(), Flash(8).image())


class RoomTest(unittest.TestCase):
    def test_the_example_of_the_document(self):
        log = Log(Flash(8))
        self.assertEqual((log.room(False), log.room(True)), (56, 64))
        log.append(a_record(1), False)
        self.assertEqual(log.state(0), "open")
        self.assertEqual((log.room(False), log.room(True)), (55, 63))

    def test_the_room_of_the_largest_flash(self):
        log = Log(Flash(24))
        self.assertEqual((log.room(False), log.room(True)), (184, 192))

    def test_each_append_takes_one_page(self):
        log = Log(Flash(8))
        for order in range(1, 57):
            log.append(a_record(order), False)
            self.assertEqual((log.room(False), log.room(True)), (56 - order, 64 - order))

    def test_without_an_open_block(self):
        rooms = [(log_with_free(free).room(False), log_with_free(free).room(True)) for free in (3, 2, 1, 0)]
        self.assertEqual(rooms, [(16, 24), (8, 16), (0, 8), (0, 0)])

    def test_with_an_open_block(self):
        rooms = []
        for free in (3, 2, 1):
            log = log_with_free(free)
            append_all(log, (100, 101, 102), True)
            rooms.append((log.room(False), log.room(True)))
        self.assertEqual(rooms, [(13, 21), (5, 13), (0, 5)])

    def test_torn_pages_are_no_room(self):
        log = filled_log([[TORN, a_record(1), TORN]])
        self.assertEqual((log.room(False), log.room(True)), (53, 61))

    def test_a_record_does_not_open_the_last_free_block(self):
        log = log_with_free(1)
        before = all_of(log)
        image = log.flash.image()
        with self.assertRaises(NoRoom):
            log.append(a_record(100), False)
        self.assertEqual(all_of(log), before)
        self.assertEqual(log.flash.image(), image)

    def test_a_record_opens_the_last_free_block_but_one(self):
        log = log_with_free(2)
        log.append(a_record(100), False)
        self.assertEqual(states(log)[6:], ["open", "free"])

    def test_a_record_goes_into_the_open_block_while_one_block_is_free(self):
        log = log_with_free(2)
        append_all(log, range(100, 108), False)
        self.assertEqual(states(log)[6:], ["closed", "free"])
        self.assertEqual(log.room(False), 0)
        with self.assertRaises(NoRoom):
            log.append(a_record(108), False)

    def test_a_copy_opens_the_last_free_block(self):
        log = log_with_free(1)
        log.append(a_record(1), True)
        self.assertEqual(states(log), ["closed"] * 7 + ["open"])
        self.assertEqual(log.holders(a_record(1)), [0, 7])

    def test_only_copies_are_programmed_while_no_block_is_free(self):
        log = log_with_free(1)
        log.append(a_record(1), True)
        before = all_of(log)
        with self.assertRaises(NoRoom):
            log.append(a_record(100), False)
        self.assertEqual(all_of(log), before)
        append_all(log, range(2, 9), True)
        self.assertEqual(states(log), ["closed"] * 8)

    def test_records_go_on_when_a_block_is_free_again(self):
        log = log_with_free(1)
        append_all(log, (1, 2), True)
        log.erase(3)
        self.assertEqual((log.room(False), log.room(True)), (6, 14))
        log.append(a_record(100), False)
        self.assertEqual(log.pages(7)[:3], records_of((1, 2, 100)))

    def test_a_full_flash_takes_no_copy(self):
        log = log_with_free(0)
        before = all_of(log)
        for is_copy in (True, False):
            with self.assertRaises(NoRoom):
                log.append(a_record(100), is_copy)
            self.assertEqual(all_of(log), before)


class EraseTest(unittest.TestCase):
    def test_a_closed_block_is_free_then(self):
        log = log_with_free(5)
        self.assertIsNone(log.erase(1))
        self.assertEqual(states(log), ["closed", "free", "closed"] + ["free"] * 5)
        self.assertEqual(log.pages(1), NEW)
        self.assertEqual(log.records(), records_of([*range(1, 9), *range(17, 25)]))
        self.assertEqual(log.flash.image()[1], (1, NEW))

    def test_other_blocks_are_not_erased(self):
        log = log_with_free(5)
        log.append(a_record(100), False)
        before, image = all_of(log), log.flash.image()
        for block in (3, 4, 7, 8, -1, *NO_INTEGERS):
            self.assertTrue(refuses(log.erase, block))
        self.assertEqual(all_of(log), before)
        self.assertEqual(log.flash.image(), image)

    def test_not_valid_is_raised_ahead_of_power_off(self):
        log = log_with_free(5)
        log.flash.fail_after(0)
        expect_power_off(log.erase, 0)
        for block in (4, 8):
            self.assertTrue(refuses(log.erase, block))
        expect_power_off(log.erase, 1)

    def test_an_erased_copy_leaves_the_other_one(self):
        log = log_with_free(1)
        append_all(log, range(1, 9), True)
        log.erase(0)
        self.assertEqual(log.holders(a_record(1)), [7])
        self.assertEqual(log.records(), records_of(range(1, 57)))


class AnswersTest(unittest.TestCase):
    def test_blocks_that_do_not_exist(self):
        log = Log(Flash(8))
        for block in (-1, 8, *NO_INTEGERS):
            self.assertTrue(refuses(log.state, block))
            self.assertTrue(refuses(log.pages, block))

    def test_a_new_log_is_empty(self):
        log = Log(Flash(8))
        self.assertEqual(log.records(), [])
        self.assertEqual(log.top(), 0)
        self.assertEqual(log.free_blocks(), list(range(8)))
        self.assertEqual(log.closed_blocks(), [])
        self.assertEqual(log.holders(a_record(1)), [])

    def test_records_are_ascending_and_each_once(self):
        log = Log(Flash(8))
        append_all(log, (3, 5, 9, 11))
        append_all(log, (9, 3, 3, 5, 9), True)
        self.assertEqual(log.records(), records_of((3, 5, 9, 11)))
        self.assertEqual(log.top(), 11)

    def test_the_holders_of_a_record(self):
        log = filled_log([full_block(1), [a_record(9), a_record(3), *records_of(range(10, 16))], [a_record(3), TORN]])
        self.assertEqual(log.holders(a_record(3)), [0, 1, 2])
        self.assertEqual(log.holders(a_record(9)), [1])
        self.assertEqual(log.holders(a_record(16)), [])

    def test_two_copies_in_one_block_are_one_holder(self):
        self.assertEqual(filled_log([[a_record(3), a_record(3)]]).holders(a_record(3)), [0])

    def test_orders_are_compared_as_numbers(self):
        log = Log(Flash(8))
        append_all(log, (9, 10, 100, 11), True)
        self.assertEqual([record[0] for record in log.records()], [9, 10, 11, 100])

    def test_what_is_returned_is_the_callers_own(self):
        log = log_with_free(5)
        log.append(a_record(100), False)
        before = all_of(log)
        for kept in (log.records(), log.pages(0), log.free_blocks(), log.closed_blocks(), log.holders(a_record(1))):
            kept.clear()
        self.assertEqual(all_of(log), before)
        kept = (log.records(), log.pages(3), log.pages(0), log.free_blocks(), log.closed_blocks())
        copies = [list(part) for part in kept]
        append_all(log, range(101, 120))
        log.erase(0)
        self.assertEqual([list(part) for part in kept], copies)

    def test_all_is_answered_while_the_power_is_off(self):
        log = log_with_free(5)
        log.append(a_record(100), False)
        before = all_of(log)
        log.flash.fail_after(0)
        expect_power_off(log.append, a_record(101), False)
        self.assertEqual(all_of(log), before)
        expect_power_off(log.append, a_record(101), True)
        expect_power_off(log.erase, 0)
        self.assertEqual(all_of(log), before)

    def test_the_power_fails_when_a_block_is_opened_or_erased(self):
        log = log_with_free(5)
        before = all_of(log)
        log.flash.fail_after(0)
        expect_power_off(log.append, a_record(100), False)
        self.assertEqual(all_of(log), before)
        log.flash.cut(0)
        log.flash.fail_after(0)
        expect_power_off(log.erase, 0)
        self.assertEqual(all_of(log), before)


class OpeningTest(unittest.TestCase):
    def test_a_log_that_is_opened_again_answers_the_same(self):
        for count in (0, 1, 7, 8, 9, 40, 63, 64):
            log = Log(Flash(8))
            append_all(log, range(1, count + 1), True)
            for opened in (Log(log.flash), Log(flash_from(log.flash.image()))):
                self.assertEqual(all_of(opened), all_of(log))

    def test_opening_changes_nothing_on_the_flash(self):
        flash = filled_flash([full_block(1), TORN_BLOCK, [a_record(9), TORN]])
        image = flash.image()
        flash.fail_after(0)
        Log(flash)
        self.assertEqual(flash.image(), image)
        expect_power_off(flash.erase, 0)

    def test_opening_while_the_power_is_off(self):
        flash = Flash(8)
        flash.fail_after(0)
        expect_power_off(flash.erase, 0)
        with self.assertRaises(PowerOff):
            Log(flash)

    def test_two_begun_blocks(self):
        for first in ([a_record(1)], [TORN], full_block(1)[:7]):
            for second in ([a_record(20)], [TORN], [TORN] * 7, full_block(20)[:7]):
                with self.assertRaises(BadFlash):
                    filled_log([full_block(40), first, [], second])
        with self.assertRaises(BadFlash):
            filled_log([[a_record(1)]] * 8)

    def test_one_begun_block(self):
        log = filled_log([full_block(1), [], TORN_BLOCK, [TORN], full_block(9)])
        self.assertEqual(states(log), ["closed", "free", "closed", "open", "closed", "free", "free", "free"])
        self.assertEqual(log.free_blocks(), [1, 5, 6, 7])
        self.assertEqual(log.closed_blocks(), [0, 2, 4])

    def test_programming_goes_on_in_the_open_block(self):
        log = filled_log([[], full_block(1), [a_record(9), a_record(10)]])
        log.append(a_record(11), False)
        self.assertEqual(log.pages(2)[:4], [*records_of((9, 10, 11)), None])

    def test_programming_goes_on_behind_a_torn_page(self):
        for pages in ([TORN], [a_record(1), TORN], [TORN, a_record(1), TORN, TORN]):
            log = filled_log([[], pages])
            log.append(a_record(5), False)
            self.assertEqual(log.pages(1), pages + [a_record(5)] + [None] * (7 - len(pages)))

    def test_a_torn_last_page_closes_its_block(self):
        log = filled_log([[*full_block(1)[:7], TORN]])
        self.assertEqual(log.state(0), "closed")
        self.assertEqual(log.records(), records_of(range(1, 8)))
        log.append(a_record(8), False)
        self.assertEqual(log.state(1), "open")

    def test_torn_pages_hold_no_record(self):
        log = filled_log([[TORN, a_record(4), TORN, a_record(2)], TORN_BLOCK])
        self.assertEqual(log.records(), records_of((2, 4)))
        self.assertEqual(log.top(), 4)
        self.assertEqual(filled_log([TORN_BLOCK, [TORN]]).top(), 0)

    def test_a_torn_block_is_closed_and_can_be_erased(self):
        log = filled_log([TORN_BLOCK])
        self.assertEqual(log.state(0), "closed")
        self.assertEqual(log.pages(0), TORN_BLOCK)
        log.erase(0)
        self.assertEqual(log.state(0), "free")

    def test_copies_on_several_blocks_are_one_record(self):
        log = filled_log([full_block(1), [a_record(20), *full_block(1)[:7]], [a_record(8), a_record(1)]])
        self.assertEqual(log.records(), records_of([*range(1, 9), 20]))
        self.assertEqual(log.holders(a_record(1)), [0, 1, 2])
        self.assertEqual(log.top(), 20)

    def test_opening_refuses_no_tuple(self):
        strange = [(), ("x",), (True, 1), (None,), ([],), (1.5,)]
        log = filled_log([[*strange, a_record(3)]])
        self.assertEqual(log.state(0), "open")
        self.assertEqual(log.pages(0), [*strange, a_record(3), None])
        self.assertEqual(log.records(), [a_record(3)])
        self.assertEqual(log.top(), 3)

    def test_tuples_that_are_no_records_are_none_of_the_records(self):
        record = (1, "write", 0, 1, 1, 3, 2, 9)
        log = filled_log([[(5,), (7, "x"), record]])
        self.assertEqual(log.records(), [record])
        self.assertEqual(log.top(), 1)
        self.assertEqual(log.pages(0), [(5,), (7, "x"), record, *[None] * 5])
        self.assertEqual((log.state(0), log.room(False), log.room(True)), ("open", 5 + 6 * 8, 5 + 7 * 8))
        self.assertEqual([log.holders(page) for page in ((5,), record)], [[0], [0]])

    def test_tuples_that_are_no_records_alone(self):
        log = filled_log([[(5,), (7, "x")]])
        self.assertEqual(log.records(), [])
        self.assertEqual(log.top(), 0)
        self.assertEqual(log.state(0), "open")
        log = filled_log([[(9, at) for at in range(8)]])
        self.assertEqual((log.records(), log.top(), log.closed_blocks()), ([], 0, [0]))

    def test_the_bounds_of_records_are_looked_at(self):
        within = (6, "write", 3, 1, 1, 8, 63, 1)
        for beyond in (
            (7, "write", 4, 1, 1, 8, 63, 1), (7, "write", 3, 0, 1, 8, 63, 1), (7, "write", 3, 1, 0, 8, 63, 1),
            (7, "write", 3, 1, 1, 9, 63, 1), (7, "write", 3, 1, 1, 8, 64, 1), (7, "write", 3, 1, 1, 8, 63, True),
            (7, "write", 3, 1, 1, 8, 63), (7, "write", 3, 1, 1, 8, 63, 1, 1), (7, "wrote", 3, 1, 1, 8, 63, 1),
            (7, "mark", 3, 1, 1, None), (7, "drop", 3, 1, 1, 8, 7), (True, *within[1:]), (0, *within[1:]),
        ):
            log = filled_log([[beyond, within]])
            self.assertEqual(log.records(), [within])
            self.assertEqual(log.top(), 6)
            self.assertEqual(log.pages(0)[:2], [beyond, within])

    def test_a_tuple_that_is_appended_is_a_record_only_within_the_bounds(self):
        log = Log(Flash(8))
        log.append((9, "x"), False)
        append_all(log, (4,))
        self.assertEqual((log.records(), log.top(), log.room(False)), ([a_record(4)], 4, 54))


class CutTest(unittest.TestCase):
    def opened_after_cut(self, log, choice, call, *arguments):
        """The log of the flash after the power failed in a call and was cut."""
        log.flash.fail_after(0)
        expect_power_off(call, *arguments)
        log.flash.cut(choice)
        return Log(log.flash)

    def test_a_record_that_was_cut_in_an_open_block(self):
        for choice, page in ((0, None), (1, a_record(4)), (2, TORN)):
            log = Log(Flash(8))
            append_all(log, (1, 2, 3))
            opened = self.opened_after_cut(log, choice, log.append, a_record(4), False)
            self.assertEqual(opened.pages(0), [*records_of((1, 2, 3)), page, *[None] * 4])
            self.assertEqual(opened.top(), 4 if choice == 1 else 3)
            opened.append(a_record(5), False)
            self.assertEqual(opened.pages(0)[3 if choice == 0 else 4], a_record(5))

    def test_a_record_that_was_cut_when_its_block_was_opened(self):
        for choice, state in ((0, "free"), (1, "open"), (2, "open")):
            log = log_with_free(5)
            opened = self.opened_after_cut(log, choice, log.append, a_record(25), False)
            self.assertEqual(states(opened), ["closed"] * 3 + [state] + ["free"] * 4)
            self.assertEqual(opened.records(), records_of(range(1, 26 if choice == 1 else 25)))

    def test_a_record_that_was_cut_on_the_last_page(self):
        for choice, state in ((0, "open"), (1, "closed"), (2, "closed")):
            log = Log(Flash(8))
            append_all(log, range(1, 8))
            opened = self.opened_after_cut(log, choice, log.append, a_record(8), False)
            self.assertEqual(opened.state(0), state)

    def test_an_erase_that_was_cut(self):
        for choice, state, pages in ((0, "closed", full_block(9)), (1, "free", NEW), (2, "closed", TORN_BLOCK)):
            log = log_with_free(5)
            opened = self.opened_after_cut(log, choice, log.erase, 1)
            self.assertEqual(states(opened), ["closed", state, "closed"] + ["free"] * 5)
            self.assertEqual(opened.pages(1), pages)
            lost = [] if choice == 0 else range(9, 17)
            self.assertEqual(opened.records(), records_of([n for n in range(1, 25) if n not in lost]))
            self.assertEqual(opened.flash.wear(1), 0 if choice == 0 else 1)

    def test_the_flash_has_a_beginning_of_what_was_programmed(self):
        for choice in (0, 1, 2):
            for count in range(20):
                log = Log(Flash(8))
                log.flash.fail_after(count)
                expect_power_off(append_all, log, range(1, 30))
                log.flash.cut(choice)
                done = count + 1 if choice == 1 else count
                self.assertEqual(Log(log.flash).records(), records_of(range(1, done + 1)))

    def test_cuts_again_and_again(self):
        log = Log(Flash(8))
        kept = []
        for order in range(1, 31):
            choice = order % 3
            log = self.opened_after_cut(log, choice, log.append, a_record(order), True)
            kept += [order] if choice == 1 else []
            self.assertEqual(log.records(), records_of(kept))
            self.assertLessEqual(states(log).count("open"), 1)


if __name__ == "__main__":
    unittest.main()
