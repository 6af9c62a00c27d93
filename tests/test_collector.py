"""Points [22] to [25]: needed pages, the block a round takes, rounds, and what collecting leaves on the flash."""

import random
import unittest

from histories import History
from samples import expect_power_off, refuses

from spindlegate.collector import collect, needed_records, victim
from spindlegate.errors import NoRoom, PowerOff
from spindlegate.flash import TORN, Flash, flash_from
from spindlegate.index import live_records, need
from spindlegate.log import Log
from spindlegate.state import fold

NEW = [None] * 8
TORN_BLOCK = [TORN] * 8
# The kinds that are added also if they do not fit; those of point [34].
FREEING = ("trim", "drop", "remove", "release", "leave", "preempt", "mark")


def live(order):
    """A record that stays live: it is the only one of its place. The orders are from 1 to 128."""
    return (order, "write", 1, 2, order, 1 + order // 64, order % 64, -order)


def dead(order):
    """A trim of a place that never had a value, of a host whose last record has a greater order."""
    return (order, "trim", 1, 2, order, 8, order % 64)


# The greatest order of host 1, so no dead record is live as the last one of the host.
LAST = (500, "mark", 1, 3, 0, None)


def block(first, dead_count=0):
    """The pages of a full block with the orders from one on; the first ones are not needed."""
    return [dead(first + at) if at < dead_count else live(first + at) for at in range(8)]


def log_of(blocks, wears=(0,) * 8):
    """A log of 8 blocks: for each one the list of its pages, which is filled up with erased ones."""
    blocks = [*blocks, *[[]] * (8 - len(blocks))]
    return Log(flash_from([(wear, [*pages, *NEW][:8]) for wear, pages in zip(wears, blocks)]))


def closed_log(dead_counts, wears=(0,) * 8):
    """A log whose first blocks are closed and have so many pages that are not needed; then LAST."""
    blocks = [block(1 + 8 * at, count) for at, count in enumerate(dead_counts)]
    return log_of([*blocks, [LAST]], wears)


def all_of(log):
    blocks = range(log.flash.blocks)
    return (log.flash.image(), [log.pages(at) for at in blocks], [log.state(at) for at in blocks], log.records())


def is_refused(log, many):
    """True if collecting finds no room."""
    try:
        collect(log, many)
    except NoRoom:
        return True
    return False


class NeededTest(unittest.TestCase):
    """Point [22]."""

    def test_the_needed_records_of_a_block(self):
        log = closed_log((3, 0, 8))
        self.assertEqual(needed_records(log, 0), [live(order) for order in range(4, 9)])
        self.assertEqual(needed_records(log, 1), block(9))
        self.assertEqual(needed_records(log, 2), [])
        self.assertEqual(needed_records(log, 3), [LAST])
        self.assertEqual(needed_records(log, 4), [])

    def test_they_are_ascending(self):
        log = log_of([[live(12), dead(5), live(9), TORN, live(100)], [LAST, *[TORN] * 7]])
        self.assertEqual(needed_records(log, 0), [live(9), live(12), live(100)])

    def test_a_record_on_two_blocks_is_needed_on_neither(self):
        log = log_of([block(1), block(9), [*block(1)[:3], LAST, LAST]])
        self.assertEqual(needed_records(log, 0), block(1)[3:])
        self.assertEqual(needed_records(log, 1), block(9))
        self.assertEqual(needed_records(log, 2), [LAST])
        log = log_of([block(1), block(1), [LAST]])
        self.assertEqual((needed_records(log, 0), needed_records(log, 1)), ([], []))

    def test_live_among_all_records_of_the_flash(self):
        # The write of one block is overwritten on another one, and hidden in no snapshot.
        first, second = (1, "write", 1, 2, 1, 3, 5, 7), (2, "write", 1, 2, 2, 3, 5, 8)
        log = log_of([[first, *[TORN] * 7], [second, *[TORN] * 7], [LAST]])
        self.assertEqual((needed_records(log, 0), needed_records(log, 1)), ([], [second]))
        snap = (2, "snap", 1, 2, 2, 3)
        log = log_of([[first, *[TORN] * 7], [snap, (3, "write", 1, 2, 3, 3, 5, 8), *[TORN] * 6], [LAST]])
        self.assertEqual(needed_records(log, 0), [first])

    def test_torn_pages_and_tuples_that_are_no_records(self):
        log = log_of([TORN_BLOCK, [(5,), (7, "x"), (1, "write"), live(3), *[TORN] * 4], [LAST]])
        self.assertEqual((needed_records(log, 0), needed_records(log, 1)), ([], [live(3)]))

    def test_blocks_that_do_not_exist(self):
        for number in (-1, 8, True, None):
            self.assertTrue(refuses(needed_records, closed_log((3,)), number))


class VictimTest(unittest.TestCase):
    """Point [23]: the block that a round takes."""

    def test_no_block_is_closed(self):
        self.assertIsNone(victim(Log(Flash(8))))
        self.assertIsNone(victim(log_of([block(1)[:7]])))

    def test_the_fewest_needed_pages(self):
        for counts, due in (((1, 3, 2), 1), ((8, 3, 2), 0), ((0, 0, 1), 2), ((0,), 0), ((0, 0, 0), 0)):
            self.assertEqual(victim(closed_log(counts)), due)

    def test_then_the_least_wear(self):
        for wears, due in (((5, 4, 3, 2), 1), ((5, 5, 3, 2), 0), ((4, 5, 0, 9), 0), ((2, 1, 0, 0), 1)):
            self.assertEqual(victim(closed_log((3, 3, 2), wears + (0,) * 4)), due)

    def test_fewer_needed_pages_come_ahead_of_less_wear(self):
        self.assertEqual(victim(closed_log((3, 4), (0, 9, 0, 0, 0, 0, 0, 0))), 1)

    def test_then_the_least_number(self):
        self.assertEqual(victim(closed_log((1, 3, 3, 3), (0, 2, 1, 1, 0, 0, 0, 0))), 2)
        self.assertEqual(victim(closed_log((2,) * 7)), 0)

    def test_a_torn_block_has_no_needed_page(self):
        self.assertEqual(victim(log_of([block(1, 7), TORN_BLOCK, [LAST]])), 1)

    def test_the_open_block_is_not_taken(self):
        self.assertEqual(victim(log_of([[TORN] * 7, block(1, 1), [], []])), 1)

    def test_copies_elsewhere_count(self):
        log = log_of([block(1), block(9, 2), [*block(1)[:3], LAST]])
        self.assertEqual(victim(log), 0)

    def test_pages_count_and_not_records(self):
        twice = [live(1), live(1), *[TORN] * 6]
        self.assertEqual(victim(log_of([twice, [live(9), *[TORN] * 7], [LAST]])), 1)
        log = log_of([[live(1)] * 8, [LAST]])
        self.assertEqual(needed_records(log, 0), [live(1)])
        self.assertTrue(is_refused(log, 49))

    def test_a_block_of_which_nothing_can_be_won_is_told_too(self):
        self.assertEqual(victim(closed_log((0, 0))), 0)

    def test_nothing_is_changed_by_asking(self):
        log = closed_log((1, 3, 2))
        before = all_of(log)
        log.flash.fail_after(0)
        self.assertEqual((victim(log), len(needed_records(log, 1))), (1, 5))
        self.assertEqual(all_of(log), before)
        expect_power_off(log.erase, 0)
        self.assertEqual((victim(log), len(needed_records(log, 1))), (1, 5))


class RoundsTest(unittest.TestCase):
    """Points [23] and [24]."""

    def test_there_is_room_already(self):
        log = closed_log((8, 8))
        before = all_of(log)
        log.flash.fail_after(0)
        for many in (1, 8, 39, log.room(False)):
            self.assertEqual(collect(log, many), [])
        self.assertEqual(all_of(log), before)
        self.assertEqual(log.room(False), 39)

    def test_nothing_is_wanted(self):
        log = log_of([block(1 + 8 * at, 1) for at in range(8)])
        before = all_of(log)
        self.assertEqual(collect(log, 0), [])
        self.assertEqual(all_of(log), before)

    def test_one_round(self):
        log = closed_log((5, 0))
        self.assertEqual(log.room(False), 39)
        self.assertEqual(collect(log, 40), [0])
        self.assertEqual(log.pages(0), NEW)
        self.assertEqual(log.pages(1), block(9))
        self.assertEqual(log.pages(2), [LAST, live(6), live(7), live(8), *[None] * 4])
        self.assertEqual(log.flash.wear(0), 1)
        self.assertEqual(log.room(False), 44)

    def test_copies_are_appended_in_ascending_order_and_each_once(self):
        log = log_of([[live(30), live(20), live(30), dead(4), live(10), TORN, TORN, TORN], [LAST]])
        self.assertEqual(collect(log, 48), [0])
        self.assertEqual(log.pages(1), [LAST, live(10), live(20), live(30), *[None] * 4])

    def test_a_block_without_needed_pages_is_erased_only(self):
        log = closed_log((8, 1))
        self.assertEqual(collect(log, 40), [0])
        self.assertEqual(log.pages(2), [LAST, *[None] * 7])

    def test_several_rounds(self):
        log = closed_log((2, 5, 1, 4))
        records = [record for record in log.records() if record[1] == "write"] + [LAST]
        self.assertEqual(log.room(False), 23)
        self.assertEqual(collect(log, 30), [1, 3])
        self.assertEqual(log.room(False), 32)
        self.assertEqual(collect(log, 34), [0])
        self.assertEqual(log.room(False), 34)
        self.assertEqual(collect(log, 35), [2])
        self.assertEqual(log.room(False), 35)
        self.assertEqual(live_records(log.records()), records)
        self.assertTrue(is_refused(log, 36))

    def test_it_stops_as_soon_as_there_is_room(self):
        self.assertEqual(collect(closed_log((8, 8, 8, 8)), 24), [0])
        self.assertEqual(collect(closed_log((8, 8, 8, 8)), 32), [0, 1])

    def test_copies_open_the_last_free_block(self):
        log = log_of([block(1 + 8 * at, 4 if at == 2 else 0) for at in range(7)])
        self.assertEqual((log.room(False), log.free_blocks()), (0, [7]))
        self.assertEqual(collect(log, 1), [2])
        self.assertEqual(log.pages(7), [*block(17, 4)[4:], *[None] * 4])
        self.assertEqual((log.room(False), log.free_blocks()), (4, [2]))

    def test_the_last_record_is_needed(self):
        log = log_of([[dead(at) for at in range(1, 9)]])
        self.assertEqual(collect(log, 49), [0])
        self.assertEqual(log.records(), [dead(8)])

    def test_a_round_that_ends_without_erasing(self):
        full = [block(1 + 8 * at) for at in range(7)]
        full[3] = [TORN, *full[3][1:]]
        log = log_of([*full, [TORN] * 7])
        records = log.records()
        self.assertEqual((log.room(False), log.room(True)), (0, 1))
        self.assertEqual(victim(log), 3)
        # One page is left for the seven needed records: no erasing; then block 7 is full and has no needed page.
        log.flash.fail_after(1)
        expect_power_off(collect, log, 1)
        log.flash.cut(0)
        log = Log(log.flash)
        self.assertEqual(log.pages(7), [*[TORN] * 7, full[3][1]])
        self.assertEqual((victim(log), needed_records(log, 3), needed_records(log, 7)), (7, full[3][2:], []))
        self.assertEqual(collect(log, 1), [7, 3])
        self.assertEqual(log.pages(7), [*full[3][1:], None])
        self.assertEqual(log.records(), records)

    def test_a_round_that_ends_without_erasing_is_not_among_the_erased_ones(self):
        full = [block(1 + 8 * at) for at in range(7)]
        full[3] = [TORN, *full[3][1:]]
        log = log_of([*full, [TORN] * 7])
        self.assertEqual(collect(log, 1), [7, 3])
        self.assertEqual([log.flash.wear(at) for at in range(8)], [0, 0, 0, 1, 0, 0, 0, 1])

    def test_no_block_is_closed(self):
        for pages in ([], block(1)[:3]):
            log = log_of([pages])
            before = all_of(log)
            with self.assertRaises(NoRoom):
                collect(log, log.room(False) + 1)
            self.assertEqual(all_of(log), before)

    def test_nothing_can_be_won(self):
        for blocks in (1, 4, 7, 8):
            log = log_of([block(1 + 8 * at) for at in range(blocks)])
            before = all_of(log)
            with self.assertRaises(NoRoom):
                collect(log, log.room(False) + 1)
            self.assertEqual(all_of(log), before)

    def test_what_can_be_won_is_not_enough(self):
        log = closed_log((2, 0, 3))
        records = live_records(log.records())
        self.assertTrue(is_refused(log, 57))
        self.assertEqual(live_records(log.records()), records)

    def test_no_page_is_free_for_a_copy(self):
        # Every block is full and has needed pages: no round could copy or erase anything.
        log = log_of([*[block(1 + 8 * at, 1) for at in range(7)], [live(100), LAST, *[TORN] * 6]])
        before = all_of(log)
        self.assertTrue(is_refused(log, 1))
        self.assertEqual(all_of(log), before)

    def test_the_power_is_off(self):
        log = closed_log((5, 0))
        log.flash.fail_after(0)
        expect_power_off(log.erase, 0)
        self.assertEqual(collect(log, 39), [])
        with self.assertRaises(PowerOff):
            collect(log, 40)


class Churn:
    """A log to which records of a history are appended, as long as the need is within its limit."""

    def __init__(self, seed, blocks=8):
        self.random = random.Random(seed)
        self.history = History(seed, 3, 6)
        self.log = Log(Flash(blocks))
        self.limit = 8 * (blocks - 4)

    def propose(self):
        """A record after which the need is within the limit."""
        while True:
            record = self.history.propose()
            many = need(self.log.records() + [record])
            if many <= self.limit - 9 or (record[1] in FREEING and many <= self.limit):
                return record

    def step(self):
        record = self.propose()
        erased = collect(self.log, 1)
        self.log.append(record, False)
        self.history.take(record)
        return erased


def failures(image, many):
    """The logs that are opened when the power failed in an operation of a collecting, and what was cut."""
    count = 0
    while True:
        for choice in (0, 1, 2):
            flash = flash_from(image)
            log = Log(flash)
            flash.fail_after(count)
            try:
                collect(log, many)
                return
            except PowerOff:
                flash.cut(choice)
            yield Log(flash), (count, choice)
        count += 1


class PowerTest(unittest.TestCase):
    """Points [24] and [25]."""

    def test_the_power_fails_in_each_operation(self):
        for log, many in ((closed_log((2, 5, 1, 4)), 34), (closed_log((5, 0)), 40), (closed_log((8, 8, 0)), 40)):
            image, needed = log.flash.image(), live_records(log.records())
            tried = 0
            for opened, cut in failures(image, many):
                self.assertEqual(live_records(opened.records()), needed, cut)
                collect(opened, many)
                self.assertGreaterEqual(opened.room(False), many)
                self.assertEqual(live_records(opened.records()), needed, cut)
                tried += 1
            self.assertGreater(tried, 5)

    def test_the_power_fails_in_each_operation_when_one_block_is_free(self):
        image = log_of([block(1 + 8 * at, 4 if at < 3 else 0) for at in range(7)]).flash.image()
        needed = live_records(Log(flash_from(image)).records())
        for opened, cut in failures(image, 3):
            self.assertEqual(live_records(opened.records()), needed, cut)
            for again, cut_again in failures(opened.flash.image(), 3):
                self.assertEqual(live_records(again.records()), needed, (cut, cut_again))
                collect(again, 3)
                self.assertEqual(live_records(again.records()), needed, (cut, cut_again))

    def test_the_condition_of_collecting_holds_after_each_failure(self):
        image = log_of([block(1 + 8 * at, 4 if at < 3 else 0) for at in range(7)]).flash.image()
        for opened, cut in failures(image, 3):
            copies_only = all(len(opened.holders(page)) > 1 for page in opened.pages(7) if page not in (None, TORN))
            unneeded = [at for at in opened.closed_blocks() if not needed_records(opened, at)]
            self.assertTrue(opened.free_blocks() or unneeded or copies_only, cut)
            if opened.pages(0)[0] != TORN and not opened.free_blocks():
                self.assertEqual(needed_records(opened, 7), [], cut)

    def test_torn_again_and_again_until_the_last_block_is_full(self):
        log = log_of([block(1 + 8 * at, 4 if at < 3 else 0) for at in range(7)])
        needed = live_records(log.records())
        for _ in range(20):
            log.flash.fail_after(0)
            expect_power_off(collect, log, 1)
            log.flash.cut(2)
            log = Log(log.flash)
            self.assertEqual(live_records(log.records()), needed)
        self.assertEqual((log.pages(7), log.free_blocks()), (TORN_BLOCK, []))
        self.assertEqual(collect(log, 1), [7, 0])
        self.assertEqual(live_records(log.records()), needed)

    def test_a_log_that_is_written_for_long(self):
        for seed in range(3):
            churn = Churn(seed)
            erased = 0
            for _ in range(250):
                erased += len(churn.step())
                self.assertEqual(fold(churn.log.records()), churn.history.state())
            self.assertGreater(erased, 20)

    def test_a_log_whose_power_fails_again_and_again(self):
        failed = 0
        for seed in range(5):
            churn = Churn(seed)
            for _ in range(150):
                record = churn.propose()
                while True:
                    churn.log.flash.fail_after(churn.random.randrange(4))
                    try:
                        collect(churn.log, 18)
                        break
                    except PowerOff:
                        failed += 1
                        churn.log.flash.cut(churn.random.randrange(3))
                        churn.log = Log(churn.log.flash)
                        self.assertEqual(fold(churn.log.records()), churn.history.state())
                churn.log.flash.fail_after(None)
                churn.log.append(record, False)
                churn.history.take(record)
        self.assertGreater(failed, 50)

    def test_collecting_ends_whenever_the_need_is_within_the_limit(self):
        for seed in range(40):
            chance = random.Random(seed)
            records = [live(order) for order in range(1, 32)] + [LAST]
            others = [dead(order) for order in range(129, 190)]
            pages = [chance.choice((TORN, chance.choice(others), None)) for _ in range(56)]
            spots = chance.sample(range(56), 32)
            for spot, record in zip(spots, records):
                pages[spot] = record
            pages = [chance.choice(records) if page is None else page for page in pages]
            log = log_of([pages[8 * at:8 * at + 8] for at in range(7)])
            self.assertLessEqual(need(log.records()), 32)
            for many in (1, 8):
                collect(log, many)
                self.assertGreaterEqual(log.room(False), many)
                self.assertEqual(live_records(log.records()), records)


if __name__ == "__main__":
    unittest.main()
