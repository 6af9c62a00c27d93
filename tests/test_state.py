"""Points [26] to [29]: the state, what each effect does to it, folding records, and reading it."""

import copy
import random
import unittest

from histories import History
from samples import NO_INTEGERS, of_host, refuses

from spindlegate.index import core, live_records, snapshots_of, value_at
from spindlegate.records import make_record
from spindlegate.state import apply_record, fold, new_state, read_cell, read_snapshot, space_of

# The records of the example of the interface of state.py.
EXAMPLE = [
    (1, "mark", 0, 1, 0, None),
    (2, "make", 0, 1, 1, 7, 64),
    (3, "write", 0, 1, 2, 7, 5, 70),
    (4, "snap", 0, 1, 3, 7),
    (5, "trim", 0, 1, 4, 7, 5),
]
TOLD = (1, 4, ("ok", None))
NO_FENCE = ((), None)


def folded(*rows):
    return fold(of_host(0, *rows))


class NewStateTest(unittest.TestCase):
    def test_the_state_before_all_records(self):
        self.assertEqual(new_state(), {"order": 0, "spaces": {}, "snaps": {}, "marks": {}})
        self.assertEqual(fold([]), new_state())

    def test_each_is_a_new_one(self):
        first = new_state()
        first["spaces"][3] = (1, {}, NO_FENCE)
        first["order"] = 9
        self.assertEqual(new_state(), {"order": 0, "spaces": {}, "snaps": {}, "marks": {}})


class ExampleTest(unittest.TestCase):
    def test_the_example_of_the_document(self):
        state = fold(EXAMPLE)
        self.assertEqual(state, {
            "order": 5,
            "spaces": {7: (64, {}, NO_FENCE)},
            "snaps": {(7, 4): {5: 70}},
            "marks": {0: (1, 4, ("ok", None), None)},
        })
        self.assertEqual(space_of(state, 7), (64, {}, NO_FENCE))
        self.assertEqual(read_snapshot(state, 7, 4, 5), 70)
        self.assertIsNone(read_cell(state, 7, 5))

    def test_its_steps(self):
        state = new_state()
        for record, cells in zip(EXAMPLE, (None, {}, {5: 70}, {5: 70}, {})):
            state = apply_record(state, record)
            self.assertEqual(state["order"], record[0])
            if cells is not None:
                self.assertEqual(space_of(state, 7), (64, cells, NO_FENCE))


class EffectsTest(unittest.TestCase):
    """Point [27]."""

    def test_marks(self):
        state = apply_record(new_state(), (1, "mark", 2, 5, 0, None))
        self.assertEqual(state["marks"], {2: (5, 0, None, None)})
        state = apply_record(state, (2, "make", 2, 5, 1, 3, 9))
        self.assertEqual(state["marks"], {2: (5, 1, ("ok", None), None)})
        state = apply_record(state, (3, "snap", 2, 5, 4, 3))
        self.assertEqual(state["marks"], {2: (5, 4, ("ok", 3), None)})
        state = apply_record(state, (4, "mark", 2, 6, 0, (5, 4, ("ok", 3))))
        self.assertEqual(state["marks"], {2: (6, 0, None, (5, 4, ("ok", 3)))})
        state = apply_record(state, (5, "register", 2, 6, 2, 3))
        self.assertEqual(state["marks"], {2: (6, 2, ("ok", 5), (5, 4, ("ok", 3)))})
        state = apply_record(state, (6, "mark", 0, 1, 0, None))
        self.assertEqual(state["marks"], {0: (1, 0, None, None), 2: (6, 2, ("ok", 5), (5, 4, ("ok", 3)))})
        state = apply_record(state, (7, "mark", 2, 7, 0, None))
        self.assertEqual(state["marks"][2], (7, 0, None, None))

    def test_a_mark_without_the_record_of_its_session(self):
        self.assertEqual(fold([(9, "trim", 1, 4, 6, 3, 2)])["marks"], {1: (4, 6, ("ok", None), None)})

    def test_making(self):
        self.assertEqual(folded(("make", 3, 9))["spaces"], {3: (9, {}, NO_FENCE)})
        state = folded(("make", 3, 9), ("make", 8, 64), ("make", 1, 1))
        self.assertEqual(state["spaces"], {1: (1, {}, NO_FENCE), 3: (9, {}, NO_FENCE), 8: (64, {}, NO_FENCE)})

    def test_making_what_exists(self):
        state = folded(("make", 3, 9), ("write", 3, 5, 1), ("register", 3), ("make", 3, 4))
        self.assertEqual(state["spaces"], {3: (4, {}, NO_FENCE)})

    def test_removing(self):
        rows = [("make", 3, 9), ("make", 4, 9), ("write", 3, 5, 1), ("snap", 3), ("snap", 4), ("snap", 3)]
        state = folded(*rows, ("remove", 3))
        self.assertEqual(state["spaces"], {4: (9, {}, NO_FENCE)})
        self.assertEqual(state["snaps"], {(4, 5): {}})
        again = folded(*rows, ("register", 3), ("remove", 3), ("make", 3, 7))
        self.assertEqual(again["spaces"], {3: (7, {}, NO_FENCE), 4: (9, {}, NO_FENCE)})
        self.assertEqual(again["snaps"], {(4, 5): {}})

    def test_writing_and_trimming(self):
        rows = [("make", 3, 9), ("write", 3, 5, 0), ("write", 3, 0, -4), ("write", 3, 5, 7)]
        self.assertEqual(folded(*rows[:3])["spaces"][3][1], {5: 0, 0: -4})
        self.assertEqual(folded(*rows)["spaces"][3][1], {5: 7, 0: -4})
        self.assertEqual(folded(*rows, ("trim", 3, 5))["spaces"][3][1], {0: -4})
        self.assertEqual(folded(*rows, ("trim", 3, 6))["spaces"][3][1], {5: 7, 0: -4})
        self.assertEqual(folded(*rows)["spaces"][3][0], 9)

    def test_a_snapshot_does_not_follow_later_writes(self):
        rows = [("make", 3, 9), ("write", 3, 5, 1), ("snap", 3), ("write", 3, 5, 2), ("write", 3, 6, 3), ("snap", 3),
                ("trim", 3, 5)]
        state = folded(*rows)
        self.assertEqual(state["snaps"], {(3, 3): {5: 1}, (3, 6): {5: 2, 6: 3}})
        self.assertEqual(state["spaces"][3][1], {6: 3})

    def test_a_snapshot_of_an_empty_namespace(self):
        state = folded(("make", 3, 9), ("snap", 3), ("write", 3, 5, 1))
        self.assertEqual(state["snaps"], {(3, 2): {}})
        self.assertIsNone(read_snapshot(state, 3, 2, 5))

    def test_dropping(self):
        rows = [("make", 3, 9), ("snap", 3), ("snap", 3), ("make", 4, 9), ("snap", 4)]
        self.assertEqual(list(folded(*rows, ("drop", 3, 2))["snaps"]), [(3, 3), (4, 5)])
        # No snapshot of the namespace has this number.
        for name in ((3, 5), (3, 1), (4, 3), (5, 3)):
            self.assertEqual(list(folded(*rows, ("drop", *name))["snaps"]), [(3, 2), (3, 3), (4, 5)])

    def test_registrations(self):
        records = [(1, "make", 0, 1, 1, 3, 9), (2, "register", 2, 1, 1, 3), (3, "register", 0, 1, 2, 3)]
        self.assertEqual(fold(records)["spaces"][3], (9, {}, (((0, 3), (2, 2)), None)))
        left = [*records, (4, "leave", 2, 1, 2, 3, False)]
        self.assertEqual(fold(left)["spaces"][3], (9, {}, (((0, 3),), None)))
        again = [*left, (5, "register", 2, 1, 3, 3)]
        self.assertEqual(fold(again)["spaces"][3], (9, {}, (((0, 3), (2, 5)), None)))

    def test_reservations(self):
        rows = [("make", 3, 9), ("register", 3), ("reserve", 3, "write")]
        self.assertEqual(folded(*rows)["spaces"][3][2], (((0, 2),), (0, "write")))
        self.assertEqual(folded(*rows, ("release", 3))["spaces"][3][2], (((0, 2),), None))
        self.assertEqual(folded(*rows, ("leave", 3, True))["spaces"][3][2], NO_FENCE)

    def test_a_record_says_what_it_sets_and_nothing_else(self):
        # Held is False here, so the reservation stays, whoever is registered.
        rows = [("make", 3, 9), ("register", 3), ("reserve", 3, "write"), ("leave", 3, False)]
        self.assertEqual(folded(*rows)["spaces"][3][2], ((), (0, "write")))
        records = [*of_host(0, *rows[:3]), (4, "preempt", 1, 1, 1, 3, 0, None)]
        self.assertEqual(fold(records)["spaces"][3][2], ((), (0, "write")))
        records = [*of_host(0, *rows[:3]), (4, "preempt", 1, 1, 1, 3, 0, "alone")]
        self.assertEqual(fold(records)["spaces"][3][2], ((), (1, "alone")))

    def test_an_effect_on_a_namespace_that_does_not_exist(self):
        before = folded(("make", 4, 9), ("write", 4, 5, 1), ("snap", 4), ("register", 4), ("reserve", 4, "write"))
        for row in (("remove", 3), ("write", 3, 5, 70), ("trim", 3, 5), ("snap", 3), ("drop", 3, 3), ("register", 3),
                    ("leave", 3, False), ("leave", 3, True), ("reserve", 3, "alone"), ("release", 3),
                    ("preempt", 3, 1, None), ("preempt", 3, 1, "write")):
            state = apply_record(before, make_record(6, row[0], 0, 1, 6, row[1:]))
            answer = ("ok", 6) if row[0] in ("snap", "register") else ("ok", None)
            self.assertEqual(state, {**before, "order": 6, "marks": {0: (1, 6, answer, None)}})
        state = apply_record(before, (6, "make", 0, 1, 6, 3, 8))
        self.assertEqual(state["spaces"], {**before["spaces"], 3: (8, {}, NO_FENCE)})


class UnchangedTest(unittest.TestCase):
    def test_the_state_that_is_passed_stays_as_it_was(self):
        for seed in range(8):
            state = new_state()
            kept = []
            for record in History(seed).grow(60).records:
                kept.append((state, copy.deepcopy(state)))
                state = apply_record(state, record)
            for before, due in kept:
                self.assertEqual(before, due)

    def test_the_state_also_stays_when_nothing_is_to_be_done(self):
        before = fold(EXAMPLE)
        kept = copy.deepcopy(before)
        after = apply_record(before, (6, "write", 1, 1, 1, 3, 5, 1))
        self.assertIsNot(after, before)
        self.assertEqual(before, kept)

    def test_the_list_that_is_passed_stays_as_it_was(self):
        records = EXAMPLE[::-1] + EXAMPLE[2:]
        kept = list(records)
        fold(records)
        self.assertEqual(records, kept)


class FoldTest(unittest.TestCase):
    def test_in_any_order_and_some_of_them_twice(self):
        chance = random.Random(3)
        for seed in range(10):
            records = History(seed).grow(40).records
            due = new_state()
            for record in records:
                due = apply_record(due, record)
            shuffled = records + records[::3] + [tuple(record) for record in records[::2]]
            chance.shuffle(shuffled)
            self.assertEqual(fold(shuffled), due)

    def test_orders_are_compared_as_numbers(self):
        records = [(10, "write", 0, 1, 10, 3, 5, 2), (9, "write", 0, 1, 9, 3, 5, 1), (1, "make", 0, 1, 1, 3, 9)]
        state = fold(records)
        self.assertEqual(state["order"], 10)
        self.assertEqual(read_cell(state, 3, 5), 2)

    def test_orders_may_be_left_out(self):
        state = fold([(40, "write", 0, 1, 10, 3, 5, 2), (7, "make", 0, 1, 1, 3, 9)])
        self.assertEqual((state["order"], read_cell(state, 3, 5)), (40, 2))

    def test_a_plain_model_has_the_same_states(self):
        for seed in range(30):
            history = History(seed)
            state = new_state()
            for _ in range(80):
                record = history.propose()
                history.take(record)
                state = apply_record(state, record)
                self.assertEqual(state, history.state())
            self.assertEqual(fold(history.records), state)

    def test_the_index_has_the_same_values(self):
        for seed in range(10):
            records = History(seed, 2, 3).grow(50).records
            state = fold(records)
            for namespace, (size, cells, _) in state["spaces"].items():
                self.assertEqual(value_at(records, ("space", namespace), None), size)
                for place in range(3):
                    self.assertEqual(value_at(records, ("place", namespace, place), None), cells.get(place))
            for (namespace, number), cells in state["snaps"].items():
                for place in range(3):
                    value = value_at(records, ("place", namespace, place), (namespace, number))
                    self.assertEqual(value, cells.get(place))
            found = [(namespace, number) for namespace in (1, 2) for number in snapshots_of(records, namespace)]
            self.assertEqual(sorted(state["snaps"]), found)


class AlwaysTest(unittest.TestCase):
    """Point [28]."""

    def test_numbers_and_keys(self):
        for seed in range(20):
            history = History(seed)
            for _ in range(8):
                state = fold(history.grow(10).records)
                keys = [key for _, _, fence in state["spaces"].values() for _, key in fence[0]]
                numbers = [number for _, number in state["snaps"]] + keys
                self.assertEqual(len(numbers), len(set(numbers)))
                self.assertLessEqual(max(numbers, default=0), state["order"])
                for namespace, _ in state["snaps"]:
                    self.assertIn(namespace, state["spaces"])


class LiveTest(unittest.TestCase):
    """Point [29]."""

    def test_the_live_records_alone_lead_to_the_same_state(self):
        for seed in range(60):
            history = History(seed)
            for _ in range(6):
                records = history.grow(20).records
                self.assertEqual(fold(live_records(records)), history.state())
                self.assertEqual(fold(live_records(live_records(records))), history.state())
                self.assertEqual(fold(core(records)), history.state())

    def test_any_records_that_are_not_live_may_be_left_out(self):
        chance = random.Random(29)
        for seed in range(20):
            history = History(seed).grow(80)
            live = live_records(history.records)
            left = [record for record in history.records if record in live or chance.random() < 0.5]
            self.assertEqual(fold(left), history.state())


class ReadingTest(unittest.TestCase):
    STATE = folded(("make", 1, 9), ("write", 1, 5, 0), ("snap", 1), ("write", 1, 6, 7), ("make", 2, 9), ("snap", 2),
                   ("remove", 2), ("snap", 1), ("drop", 1, 8))

    def test_places(self):
        self.assertEqual([read_cell(self.STATE, 1, place) for place in (5, 6, 7)], [0, 7, None])
        self.assertEqual([read_snapshot(self.STATE, 1, 3, place) for place in (5, 6, 7)], [0, None, None])

    def test_places_that_the_namespace_does_not_have(self):
        for place in (9, 63, 64, 1000, -1):
            self.assertIsNone(read_cell(self.STATE, 1, place))
            self.assertIsNone(read_snapshot(self.STATE, 1, 3, place))

    def test_namespaces_that_do_not_exist(self):
        for namespace in (2, 3, 8, 0, 9, -1, *NO_INTEGERS):
            self.assertTrue(refuses(space_of, self.STATE, namespace))
            self.assertTrue(refuses(read_cell, self.STATE, namespace, 5))
            self.assertTrue(refuses(read_snapshot, self.STATE, namespace, 3, 5))
        self.assertTrue(refuses(space_of, new_state(), 1))

    def test_snapshots_that_do_not_exist(self):
        # Never made, dropped, of a namespace that was removed, of another namespace.
        for namespace, number in ((1, 1), (1, 4), (1, 8), (1, 99), (1, 0), (2, 6), (1, 6), (2, 3), (3, 3)):
            self.assertTrue(refuses(read_snapshot, self.STATE, namespace, number, 5))
        for number in NO_INTEGERS:
            self.assertTrue(refuses(read_snapshot, self.STATE, 1, number, 5))

    def test_true_is_no_number_of_a_snapshot(self):
        state = {**self.STATE, "snaps": {(1, 1): {5: 50}}}
        self.assertEqual(read_snapshot(state, 1, 1, 5), 50)
        self.assertTrue(refuses(read_snapshot, state, 1, True, 5))

    def test_reading_changes_nothing(self):
        kept = copy.deepcopy(self.STATE)
        space_of(self.STATE, 1)
        read_cell(self.STATE, 1, 7)
        read_snapshot(self.STATE, 1, 3, 7)
        self.assertEqual(self.STATE, kept)


if __name__ == "__main__":
    unittest.main()
