"""Points [30] to [35]: records that wait, the lasting order, flushing, the need, the limit, and what fits."""

import random
import unittest

from histories import History
from samples import FIELDS, NO_INTEGERS, expect_power_off, full_block, refuses

from spindlegate.errors import BadFlash, PowerOff
from spindlegate.flash import Flash, flash_from
from spindlegate.index import live_records, need
from spindlegate.log import Log
from spindlegate.records import KINDS
from spindlegate.state import fold, new_state
from spindlegate.store import MOST_WAITING, Store

# The kinds of point [34].
NEVER_REFUSED = ("trim", "drop", "remove", "release", "leave", "preempt", "mark")


class Writer:
    """Host 0 with a store; each record has the next counter."""

    def __init__(self, flash):
        self.store = Store(flash)
        self.counter = 0

    def add(self, kind, *fields):
        self.counter += kind != "mark"
        return self.store.add(kind, 0, 1, 0 if kind == "mark" else self.counter, fields)

    def need_with(self, kind, *fields):
        return self.store.need_with(kind, 0, 1, self.counter + 1, fields)

    def fits(self, kind, *fields):
        return self.store.fits(kind, 0, 1, self.counter + 1, fields)

    def write(self, places):
        for place in places:
            self.add("write", 7, place, 100 + place)


def begun(blocks=8):
    """A writer that has made the namespace 7: the orders 1 and 2, which wait."""
    writer = Writer(Flash(blocks))
    writer.add("mark", None)
    writer.add("make", 7, 64)
    return writer


def all_of(store):
    return (store.state, store.waiting, store.records(), store.flash.image(), store.lasting_order(), store.need())


class Story:
    """A store to which a history is added as long as it fits; the state at each order is kept."""

    def __init__(self, seed, blocks=8):
        self.history = History(seed, 3, 6)
        self.store = Store(Flash(blocks))
        self.states = [new_state()]

    def proposed(self):
        """The parts of a record that fits, or that is never refused."""
        while True:
            record = self.history.propose()
            parts = (*record[1:5], record[5:])
            if record[1] in NEVER_REFUSED or self.store.fits(*parts):
                return record, parts

    def step(self):
        self.take(*self.proposed())

    def take(self, record, parts):
        self.store.add(*parts)
        self.history.take(record)
        self.states.append(self.history.state())

    def grow(self, count):
        for _ in range(count):
            self.step()
        return self


class ExampleTest(unittest.TestCase):
    def test_the_example(self):
        store = Store(Flash(8))
        self.assertEqual((store.limit(), store.need()), (32, 0))
        self.assertEqual(store.add("mark", 0, 1, 0, (None,)), 1)
        self.assertEqual(store.add("make", 0, 1, 1, (7, 64)), 2)
        self.assertEqual((store.need(), store.lasting_order()), (1, 0))
        store.flush()
        self.assertEqual(store.lasting_order(), 2)

    def test_most_waiting(self):
        self.assertEqual(MOST_WAITING, 8)


class WaitingTest(unittest.TestCase):
    """Points [30] and [31]."""

    def test_a_new_store(self):
        flash = Flash(9)
        store = Store(flash)
        self.assertIs(store.flash, flash)
        self.assertIsInstance(store.log, Log)
        self.assertEqual((store.state, store.waiting, store.records()), (new_state(), [], []))
        self.assertEqual((store.next_order(), store.lasting_order()), (1, 0))

    def test_records_that_wait(self):
        store = begun().store
        records = [(1, "mark", 0, 1, 0, None), (2, "make", 0, 1, 1, 7, 64)]
        self.assertEqual((store.waiting, store.records(), store.log.records()), (records, records, []))
        self.assertEqual(store.state, fold(records))
        self.assertEqual((store.next_order(), store.lasting_order()), (3, 0))
        self.assertEqual(store.flash.image(), Flash(8).image())

    def test_fields_may_be_a_list(self):
        store, fields = Store(Flash(8)), [7, 64]
        store.add("make", 0, 1, 1, fields)
        self.assertEqual((store.waiting, fields), ([(1, "make", 0, 1, 1, 7, 64)], [7, 64]))

    def test_at_most_8_wait_and_the_ninth_flushes_first(self):
        writer = begun()
        writer.write(range(6))
        store = writer.store
        self.assertEqual([record[0] for record in store.waiting], list(range(1, 9)))
        self.assertEqual((store.lasting_order(), store.log.records()), (0, []))
        self.assertEqual(writer.add("write", 7, 6, 1), 9)
        self.assertEqual([record[0] for record in store.waiting], [9])
        self.assertEqual((store.lasting_order(), store.next_order()), (8, 10))
        self.assertEqual([record[0] for record in store.log.records()], list(range(1, 9)))
        self.assertEqual([record[0] for record in store.records()], list(range(1, 10)))
        self.assertEqual(store.state, fold(store.records()))

    def test_flush(self):
        writer = begun()
        store = writer.store
        state = store.state
        store.flush()
        self.assertEqual((store.waiting, store.lasting_order(), store.next_order()), ([], 2, 3))
        self.assertEqual(store.state, state)
        self.assertEqual(store.log.pages(0)[:3], [(1, "mark", 0, 1, 0, None), (2, "make", 0, 1, 1, 7, 64), None])
        self.assertEqual(store.records(), store.log.records())

    def test_a_flush_with_nothing_waiting(self):
        store = begun().store
        store.flush()
        image = store.flash.image()
        store.flash.fail_after(0)
        store.flush()
        self.assertEqual((store.flash.image(), store.lasting_order()), (image, 2))

    def test_records_stand_on_the_flash_in_their_order(self):
        writer = begun()
        writer.write(range(30))
        writer.store.flush()
        pages = [page for _, block in writer.store.flash.image() for page in block if page is not None]
        self.assertEqual([page[0] for page in pages], list(range(1, 33)))

    def test_returned_lists_are_not_changed_later(self):
        writer = begun()
        records, waiting, state = writer.store.records(), writer.store.waiting, writer.store.state
        copies = (list(records), list(waiting), fold(records))
        writer.write(range(3))
        writer.store.flush()
        writer.write(range(3))
        self.assertEqual((records, waiting, state), copies)
        records.clear()
        self.assertEqual(len(writer.store.records()), 8)

    def test_it_does_not_ask_whether_a_record_fits(self):
        writer = begun()
        writer.write(range(23))
        self.assertFalse(writer.fits("write", 7, 30, 1))
        self.assertEqual(writer.add("write", 7, 30, 1), 26)

    def test_what_is_no_record(self):
        store = begun().store
        before = all_of(store)
        for kind, fields in (("write", (7, 5)), ("write", (7, 5, True)), ("make", (9, 4)), ("read", (7, 5)),
                             ("drop", (7, 3)), ("mark", ((1, 2),))):
            for counter in (0, 3):
                self.assertTrue(refuses(store.add, kind, 0, 1, counter, fields))
                self.assertTrue(refuses(store.need_with, kind, 0, 1, counter, fields))
        for value in (*NO_INTEGERS, 4, -1):
            self.assertTrue(refuses(store.add, "trim", value, 1, 3, (7, 5)))
        self.assertEqual(all_of(store), before)


class CollectedTest(unittest.TestCase):
    """Points [31] and [35], on flashes whose records were collected."""

    def test_a_place_that_is_written_for_long(self):
        writer = begun()
        for _ in range(40):
            writer.write(range(5))
        store = writer.store
        self.assertGreater(sum(wear for wear, _ in store.flash.image()), 10)
        self.assertEqual((store.next_order(), store.need()), (203, 6))
        store.flush()
        self.assertEqual((store.lasting_order(), store.state), (202, fold(store.records())))
        self.assertLess(len(store.records()), 60)
        self.assertEqual(store.state["spaces"][7][1], {place: 100 + place for place in range(5)})

    def test_a_store_that_is_opened_anew(self):
        for seed in range(4):
            story = Story(seed)
            for count in (5, 20, 100, 100):
                story.grow(count)
                waiting = Store(flash_from(story.store.flash.image()))
                self.assertEqual(waiting.state, story.states[story.store.lasting_order()])
                self.assertEqual(waiting.lasting_order(), story.store.lasting_order())
                story.store.flush()
                opened = Store(flash_from(story.store.flash.image()))
                self.assertEqual((opened.state, opened.waiting), (story.states[-1], []))
                self.assertEqual((opened.next_order(), opened.lasting_order()), (len(story.states),
                                                                                 len(story.states) - 1))
                self.assertEqual(live_records(opened.records()), live_records(story.store.records()))
                self.assertEqual(opened.need(), story.store.need())

    def test_the_state_is_always_that_of_the_records(self):
        story = Story(7)
        for _ in range(150):
            story.step()
            self.assertEqual(story.store.state, story.states[-1])
            self.assertEqual(fold(story.store.records()), story.states[-1])
            self.assertEqual(story.states[story.store.lasting_order()], fold(story.store.log.records()))
            self.assertEqual(story.store.next_order(), len(story.states))


class OpeningTest(unittest.TestCase):
    """Point [35]."""

    def test_the_power_is_off(self):
        flash = Flash(8)
        flash.fail_after(0)
        expect_power_off(flash.erase, 0)
        with self.assertRaises(PowerOff):
            Store(flash)

    def test_two_open_blocks(self):
        flash = flash_from([(0, full_block(1)[:3] + [None] * 5)] * 2 + [(0, [None] * 8)] * 6)
        with self.assertRaises(BadFlash):
            Store(flash)

    def test_orders_go_on_behind_the_greatest_one(self):
        flash = flash_from([(0, full_block(40))] + [(0, [None] * 8)] * 7)
        store = Store(flash)
        self.assertEqual((store.lasting_order(), store.next_order(), store.waiting), (47, 48, []))
        self.assertEqual(store.add("trim", 1, 3, 1, (3, 5)), 48)

    def test_copies_and_torn_pages(self):
        records = full_block(1)
        flash = flash_from([(0, records), (2, records[:3] + ["torn"] * 5), (0, ["torn"] * 2 + [None] * 6)]
                           + [(0, [None] * 8)] * 5)
        store = Store(flash)
        self.assertEqual((store.records(), store.state), (records, fold(records)))
        store.add("trim", 1, 3, 1, (3, 5))
        store.flush()
        self.assertEqual(store.log.pages(2)[:4], ["torn", "torn", (9, "trim", 1, 3, 1, 3, 5), None])


class PowerTest(unittest.TestCase):
    """Point [32]."""

    def each_failure(self, image, add_all):
        """The power fails in each operation that a store on this image makes, with each choice of the cut.

        The states that it had are kept by their orders, and the state after opening is looked up among them.
        """
        count = 0
        while True:
            for choice in (0, 1, 2):
                store = Store(flash_from(image))
                states, lasting = {store.state["order"]: store.state}, store.lasting_order()
                store.flash.fail_after(count)
                try:
                    for kind, host, session, counter, fields in add_all:
                        store.add(kind, host, session, counter, fields)
                        states[store.state["order"]] = store.state
                        lasting = max(lasting, store.lasting_order())
                    store.flush()
                    return count
                except PowerOff:
                    store.flash.cut(choice)
                opened = Store(store.flash)
                order = opened.state["order"]
                self.assertGreaterEqual(order, lasting)
                self.assertEqual(opened.state, states[order], (count, choice))
                self.assertEqual((opened.waiting, opened.lasting_order()), ([], order))
                again = [parts for at, parts in enumerate(add_all) if at + 1 + min(states) > order]
                self.assertEqual(self.state_after(opened, again), self.state_after(Store(flash_from(image)), add_all))
            count += 1

    def state_after(self, store, add_all):
        for parts in add_all:
            store.add(*parts)
        store.flush()
        self.assertEqual(store.lasting_order(), store.state["order"])
        return Store(store.flash).state

    def test_a_flush_on_a_new_flash(self):
        add_all = [("mark", 0, 1, 0, (None,)), ("make", 0, 1, 1, (7, 64)), ("write", 0, 1, 2, (7, 5, 1)),
                   ("snap", 0, 1, 3, (7,)), ("trim", 0, 1, 4, (7, 5))]
        self.assertEqual(self.each_failure(Flash(8).image(), add_all), 5)

    def test_a_flush_that_collects(self):
        # One page can be programmed without collecting, and each block holds some records that are needed.
        writer = begun()
        for at in range(53):
            writer.add("write", 7, at if at % 3 == 0 else 63, at)
        writer.store.flush()
        self.assertEqual(writer.store.log.room(False), 1)
        add_all = [("write", 0, 1, writer.counter + at, (7, at, -at)) for at in range(1, 9)]
        self.assertGreater(self.each_failure(writer.store.flash.image(), add_all), 12)

    def test_the_flush_of_a_ninth_record(self):
        writer = begun()
        writer.write(range(10))
        writer.store.flush()
        add_all = [("write", 0, 1, writer.counter + at, (7, at, -at)) for at in range(1, 21)]
        self.assertEqual(self.each_failure(writer.store.flash.image(), add_all), 20)

    def test_what_was_refused_by_the_power_is_not_added(self):
        writer = begun()
        writer.write(range(6))
        writer.store.flash.fail_after(3)
        expect_power_off(writer.add, "write", 7, 9, 9)
        self.assertEqual((writer.store.next_order(), writer.store.state["order"]), (9, 8))
        writer.store.flash.cut(1)
        self.assertEqual(Store(writer.store.flash).lasting_order(), 4)

    def test_a_history_whose_power_fails_again_and_again(self):
        failed = 0
        for seed in range(4):
            story, chance = Story(seed), random.Random(seed)
            for _ in range(120):
                record, parts = story.proposed()
                # The flash is opened anew, so that all of the records last but this one.
                story.store.flush()
                story.store = Store(story.store.flash)
                story.store.add(*parts)
                states = (story.states[-1], story.store.state)
                story.store.flash.fail_after(chance.randrange(4))
                try:
                    story.store.flush()
                    story.store.flash.fail_after(None)
                except PowerOff:
                    failed += 1
                    story.store.flash.cut(chance.randrange(3))
                    story.store = Store(story.store.flash)
                    self.assertEqual(story.store.state, states[story.store.state["order"] - states[0]["order"]])
                    if story.store.state == states[0]:
                        continue
                story.history.take(record)
                story.states.append(story.history.state())
                self.assertEqual(story.store.state, story.states[-1])
        self.assertGreater(failed, 80)


class NeedTest(unittest.TestCase):
    """Points [33] and [34]."""

    def test_the_limit(self):
        for blocks in range(8, 25):
            self.assertEqual(Store(Flash(blocks)).limit(), (blocks - 4) * 8)

    def test_what_waits_counts(self):
        writer = begun()
        self.assertEqual(writer.store.need(), 1)
        writer.write((1, 2, 2))
        self.assertEqual((writer.store.need(), writer.store.lasting_order()), (3, 0))
        writer.store.flush()
        self.assertEqual(writer.store.need(), 3)
        writer.write((1, 3))
        self.assertEqual((writer.store.need(), need(writer.store.log.records())), (4, 3))
        writer.add("snap", 7)
        self.assertEqual(writer.store.need(), 8)

    def test_what_waits_frees_too(self):
        writer = begun()
        writer.write((1, 2, 3))
        writer.store.flush()
        writer.add("trim", 7, 2)
        # The trim is the last one of the host.
        self.assertEqual(writer.store.need(), 4)
        writer.write((1,))
        self.assertEqual(writer.store.need(), 3)

    def test_need_with(self):
        writer = begun()
        writer.write((1, 2))
        before = all_of(writer.store)
        self.assertEqual(writer.need_with("write", 7, 3, 1), 4)
        self.assertEqual(writer.need_with("write", 7, 2, 1), 3)
        self.assertEqual(writer.need_with("trim", 7, 2), 3)
        self.assertEqual(writer.need_with("snap", 7), 6)
        self.assertEqual(writer.need_with("remove", 7), 1)
        self.assertEqual(all_of(writer.store), before)

    def test_need_with_is_the_need_when_it_is_added(self):
        story = Story(3)
        for _ in range(120):
            record, parts = story.proposed()
            expected = story.store.need_with(*parts)
            story.take(record, parts)
            self.assertEqual(story.store.need(), expected)

    def test_need_with_gets_the_next_order(self):
        writer = begun()
        writer.write((1,))
        # A snapshot has its order as its number, which is behind that of the write.
        self.assertEqual(writer.need_with("snap", 7), 4)
        self.assertTrue(refuses(writer.need_with, "drop", 7, 4))
        self.assertEqual(writer.need_with("drop", 7, 3), 3)

    def test_asking_makes_no_operation(self):
        writer = begun()
        writer.write(range(6))
        writer.store.flash.fail_after(0)
        before = all_of(writer.store)
        writer.need_with("write", 7, 9, 1)
        writer.fits("write", 7, 9, 1)
        self.assertEqual(all_of(writer.store), before)

    def test_it_fits_up_to_the_limit_less_9(self):
        for blocks in (8, 9, 24):
            writer = begun(blocks)
            many = writer.store.limit() - 9
            for namespace, place in [(namespace, place) for namespace in (7, 2, 3, 4) for place in range(60)]:
                if place == 0 and namespace != 7 and writer.store.need() < many - 2:
                    writer.add("make", namespace, 64)
                if writer.store.need() < many - 1:
                    writer.add("write", namespace, place, 1)
            self.assertEqual(writer.store.need(), many - 1)
            for fields in (("write", 7, 63, 1), ("make", 8, 1), ("register", 7), ("reserve", 7, "write")):
                self.assertEqual(writer.need_with(*fields), many)
                self.assertIs(writer.fits(*fields), True)
            writer.add("register", 7)
            for fields in (("write", 7, 63, 1), ("make", 8, 1), ("reserve", 7, "write")):
                self.assertEqual(writer.need_with(*fields), many + 1)
                self.assertIs(writer.fits(*fields), False)
            self.assertTrue(writer.fits("write", 7, 0, 5))

    def test_a_snapshot_needs_a_page_for_each_place(self):
        writer = begun()
        writer.write(range(11))
        self.assertEqual(writer.need_with("snap", 7), 24)
        self.assertFalse(writer.fits("snap", 7))
        writer.add("trim", 7, 0)
        self.assertEqual(writer.need_with("snap", 7), 22)
        self.assertTrue(writer.fits("snap", 7))

    def test_the_seven_kinds_always_fit(self):
        writer = begun()
        writer.add("make", 6, 4)
        for place in range(40):
            if writer.store.need() < writer.store.limit():
                writer.add("write", 7, place, 1)
        self.assertEqual(writer.store.need(), 32)
        for kind in KINDS:
            counter = 0 if kind == "mark" else 90
            # The namespace 6 has nothing, so that its end makes no room beyond the limit less 9.
            fields = (6,) if kind == "remove" else FIELDS[kind]
            self.assertGreater(writer.store.need_with(kind, 1, 2, counter, fields), 23, kind)
            self.assertIs(writer.store.fits(kind, 1, 2, counter, fields), kind in NEVER_REFUSED, kind)

    def test_a_flash_that_is_filled_until_nothing_fits(self):
        writer = begun()
        place = 0
        while writer.fits("write", 7, place, 1):
            writer.add("write", 7, place, 1)
            place += 1
        self.assertEqual((place, writer.store.need()), (22, 23))
        self.assertFalse(writer.fits("make", 3, 4) or writer.fits("snap", 7) or writer.fits("register", 7))
        for place in range(12, 22):
            writer.add("trim", 7, place)
        self.assertTrue(writer.fits("snap", 7) is False and writer.fits("write", 7, 60, 1))
        for place in range(10, 12):
            writer.add("trim", 7, place)
        snapshot = writer.add("snap", 7)
        self.assertEqual(writer.store.need(), 22)
        for place in range(10):
            # The page of the shared place counts already: a write of it needs no more.
            self.assertTrue(writer.fits("write", 7, place, 2))
            writer.add("write", 7, place, 2)
        self.assertFalse(writer.fits("write", 7, 40, 2) and writer.fits("snap", 7))
        writer.add("drop", 7, snapshot)
        self.assertTrue(writer.fits("snap", 7))
        writer.add("remove", 7)
        self.assertEqual(writer.store.need(), 1)
        self.assertEqual(writer.fits("make", 7, 4), True)
        writer.store.flush()
        self.assertEqual(Store(writer.store.flash).state["spaces"], {})

    def test_the_need_is_never_beyond_the_limit(self):
        most = 0
        for seed in range(6):
            story = Story(seed)
            for _ in range(150):
                story.step()
                most = max(most, story.store.need())
        self.assertLessEqual(most, 32)
        self.assertGreaterEqual(most, 23)


if __name__ == "__main__":
    unittest.main()
