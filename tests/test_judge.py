"""Points [66] to [69]: the first fault of a history, its index, and the order in which faults are looked for."""

import copy
import unittest

from counting import Counting, some_acts

from spindlegate.judge import first_fault, judge
from spindlegate.world import World

OK = ("ok", None)
ROOM = ("room", None)
NO_FAULT = ("", -1)
MAKE = ("make", 3, 10)
FLUSH = ("flush",)


def connect(run, order, host, session, told=None):
    return (run, order, host, session, 0, None, ("connect",), ("ok", told))


def write(run, order, session, counter, value=50, key=None, answer=OK):
    """A write of host 0 to the place 5 of the namespace 3."""
    return (run, order, 0, session, counter, key, ("write", 3, 5, value), answer)


# One run of two hosts; host 0 has the key 6.
ROWS = [
    connect(0, 1, 0, 1),
    (0, 2, 0, 1, 1, None, MAKE, OK),
    write(0, 3, 1, 2),
    connect(0, 4, 1, 4),
    (0, 4, 1, 4, 1, None, ("read", 3, 5), ("ok", 50)),
    (0, 5, 0, 1, 3, None, ("snap", 3), ("ok", 5)),
    (0, 6, 0, 1, 4, None, ("register", 3), ("ok", 6)),
    write(0, 7, 1, 5, 70, 6),
    (0, 7, 1, 4, 2, None, ("write", 3, 5, 1), ("conflict", None)),
    (0, 8, 0, 1, 6, 6, ("trim", 3, 5), OK),
]
# What the host was told in the next run, and what it did there, if it went on from the order 7.
AFTER = [
    connect(1, 8, 0, 2, (1, 5, OK)),
    (1, 8, 0, 2, 1, 6, ("read", 3, 5), ("ok", 70)),
    (1, 9, 0, 2, 2, 6, ("write", 3, 5, 71), OK),
]


def changed(rows, index, part, value):
    """The rows with another value as one part of a row."""
    row = rows[index]
    return [*rows[:index], (*row[:part], value, *row[part + 1:]), *rows[index + 1:]]


class ExampleTest(unittest.TestCase):
    def test_the_example(self):
        rows = [connect(0, 1, 0, 1), (0, 2, 0, 1, 1, None, ("make", 3, 4), OK)]
        self.assertEqual(judge(rows, [1]), "")
        self.assertEqual(judge(rows, [0]), "cut")
        self.assertEqual(judge(changed(rows, 1, 1, 3), [1]), "order")

    def test_no_fault(self):
        for rows, cuts in (([], []), ([], [0]), ([], [0, 0]), (ROWS, []), (ROWS, [7]), (ROWS + AFTER, [7]),
                           (ROWS + AFTER, [7, 9]), (ROWS + AFTER, [7, 8, 8])):
            self.assertEqual((judge(rows, cuts), first_fault(rows, cuts)), ("", NO_FAULT))

    def test_the_history_and_the_cuts_that_are_passed_stay(self):
        for rows, cuts in ((ROWS + AFTER, [7, 9]), (ROWS + AFTER, [6]), (changed(ROWS, 3, 1, 9), [])):
            before = copy.deepcopy((rows, cuts))
            judge(rows, cuts)
            first_fault(rows, cuts)
            self.assertEqual((rows, cuts), before)


class RunTest(unittest.TestCase):
    """Point [68], 1."""

    def test_a_run_beyond_the_cuts(self):
        for index in range(len(ROWS)):
            self.assertEqual(first_fault(changed(ROWS, index, 0, 1), []), ("run", index))
        self.assertEqual(first_fault(ROWS + AFTER, []), ("run", 10))
        self.assertEqual(first_fault(changed(ROWS + AFTER, 12, 0, 2), [7]), ("run", 12))

    def test_a_run_less_than_that_of_the_row_before(self):
        for index in (11, 12):
            self.assertEqual(first_fault(changed(ROWS + AFTER, index, 0, 0), [7]), ("run", index))

    def test_run_comes_first(self):
        # The cut is not possible, either.
        self.assertEqual(first_fault(changed(ROWS + AFTER, 10, 0, 2), [99]), ("run", 10))
        self.assertEqual(first_fault(ROWS + AFTER, [99]), ("cut", 10))
        wrong = (0, 99, 3, 9, 9, None, MAKE, ("ok", 1))
        self.assertEqual(first_fault([*ROWS, *AFTER, wrong], [7]), ("run", 13))


class CutTest(unittest.TestCase):
    """Point [67]."""

    def test_the_orders_that_a_run_can_go_on_from(self):
        # The register had the order 6, and a command was carried out behind it.
        self.assertEqual([judge(ROWS, [order]) for order in range(10)], ["cut"] * 6 + [""] * 3 + ["cut"])

    def test_each_flush_that_was_answered(self):
        last = {"leave": ("leave", 3), "reserve": ("reserve", 3, "write"), "release": ("release", 3),
                "preempt": ("preempt", 3, 1), "register": ("register", 3), "flush": FLUSH}
        rows = [connect(0, 1, 0, 1), (0, 2, 0, 1, 1, None, MAKE, OK), (0, 3, 0, 1, 2, None, ("register", 3), ("ok", 3)),
                connect(0, 4, 1, 1), (0, 5, 1, 1, 1, None, ("register", 3), ("ok", 5)),
                (0, 6, 0, 1, 3, 3, ("reserve", 3, "write"), OK), write(0, 7, 1, 4, 1, 3), write(0, 8, 1, 5, 2, 3)]
        for word, command in last.items():
            key, order, value = 3, 9, None
            if word in ("flush", "register"):
                key, order = None, 8
            if word == "register":
                value = 3
            if word == "reserve":
                order = 8
            flushed = (0, order, 0, 1, 6, key, command, ("ok", value))
            behind = (0, order, 0, 1, 7, None, FLUSH, OK)
            # As the last row of its run it may have been cut, but not when something was carried out behind it.
            self.assertEqual(judge([*rows, flushed], [6]), "", word)
            self.assertEqual(first_fault([*rows, flushed, behind], [order]), NO_FAULT, word)
            self.assertEqual(first_fault([*rows, flushed, behind], [order - 1]), ("cut", 10), word)

    def test_what_flushes_nothing(self):
        rows = [connect(0, 1, 0, 1), (0, 2, 0, 1, 1, None, MAKE, OK)]
        cases = [write(0, 3, 1, 2), (0, 2, 0, 1, 2, None, ("read", 3, 5), OK), (0, 3, 0, 1, 2, None, ("snap", 3), ("ok", 3)),
                 (0, 2, 0, 1, 2, None, ("leave", 3), ("conflict", None)), (0, 3, 0, 1, 2, None, ("remove", 3), OK),
                 (0, 2, 0, 1, 2, None, ("register", 4), ("none", None)), (0, 2, 0, 1, 2, None, ("register", 3), ROOM)]
        for row in cases:
            behind = (0, row[1], 0, 1, 3, None, ("flush",), OK)
            self.assertEqual([judge([*rows, row, behind], [order]) for order in range(3)], ["cut", "", ""], row)

    def test_a_connect_that_was_answered(self):
        rows = [connect(0, 1, 0, 1), (0, 2, 0, 1, 1, None, MAKE, OK), connect(0, 3, 1, 1)]
        self.assertEqual([judge(rows, [order]) for order in range(5)], ["cut", "", "", "", "cut"])
        rows.append((0, 3, 1, 1, 1, None, ("read", 3, 1), OK))
        self.assertEqual([judge(rows, [order]) for order in range(5)], ["cut", "cut", "cut", "", "cut"])

    def test_the_row_before_is_of_another_run(self):
        # The flush of the run 0 may have been cut, whatever the run 1 does.
        rows = [connect(0, 1, 0, 1), (0, 2, 0, 1, 1, None, MAKE, OK), (0, 2, 0, 1, 2, None, FLUSH, OK)]
        self.assertEqual(judge([*rows, connect(1, 2, 0, 2)], [1]), "")
        self.assertEqual(judge([*rows, connect(1, 2, 0, 2)], [1, 1]), "")
        self.assertEqual(judge([*rows, connect(1, 2, 0, 2)], [1, 2]), "")
        self.assertEqual(first_fault([*rows, connect(1, 2, 0, 2)], [1, 0]), ("cut", 4))

    def test_the_bound_is_the_order_of_the_cut(self):
        self.assertEqual(first_fault(ROWS, [7, 7, 7]), NO_FAULT)
        self.assertEqual(first_fault(ROWS, [7, 6]), ("cut", 10))
        self.assertEqual(first_fault(ROWS + AFTER, [7, 7]), ("cut", 13))

    def test_states_that_are_forgotten(self):
        self.assertEqual(first_fault(ROWS, [7, 8]), ("cut", 10))
        self.assertEqual(first_fault(ROWS + AFTER[:1], [7, 9]), ("cut", 11))
        rows = ROWS + AFTER + [connect(2, 10, 0, 3, (2, 2, OK))]
        self.assertEqual(first_fault(rows, [7, 9]), NO_FAULT)
        # The order 8 is that of the run 1, in which nothing had been trimmed.
        rows = [*ROWS, AFTER[0], connect(2, 9, 0, 3, (1, 5, OK)), (2, 9, 0, 3, 1, 6, ("read", 3, 5), ("ok", 70))]
        self.assertEqual(first_fault(rows, [7, 8]), NO_FAULT)

    def test_the_state_before_all_records(self):
        self.assertEqual(first_fault([connect(1, 1, 0, 1)], [0]), NO_FAULT)
        self.assertEqual(first_fault([connect(0, 1, 0, 1), connect(1, 1, 0, 1)], [0]), NO_FAULT)
        self.assertEqual(first_fault([connect(0, 1, 0, 1), connect(1, 2, 0, 2)], [1]), NO_FAULT)
        self.assertEqual(first_fault([connect(1, 1, 0, 1)], [1]), ("cut", 0))

    def test_the_index_is_that_of_the_first_row_of_the_run_or_of_a_later_one(self):
        later = [(3, *row[1:]) for row in AFTER]
        self.assertEqual(first_fault(ROWS + later, [7, 7, 7]), NO_FAULT)
        for cuts in ([99, 7, 7], [7, 99, 7], [7, 7, 99], [5, 7, 7], [7, 7, 6]):
            self.assertEqual(first_fault(ROWS + later, cuts), ("cut", 10))
        self.assertEqual(first_fault(ROWS + later, [7, 7, 7, 99]), ("cut", 13))
        self.assertEqual(first_fault([], [0, 1]), ("cut", 0))

    def test_cut_comes_ahead_of_session_answer_and_order(self):
        for part, value, word in ((3, 1, "session"), (7, ("ok", 1), "answer"), (1, 9, "order")):
            rows = changed(ROWS + AFTER, 10, part, value)
            self.assertEqual(first_fault(rows, [7]), (word, 10))
            self.assertEqual(first_fault(rows, [5]), ("cut", 10))


class SessionTest(unittest.TestCase):
    """Point [68], 2."""

    def test_a_connect_that_is_not_new(self):
        for session in (1, 3, 4):
            rows = [*ROWS, connect(0, 9, 1, session, (4, 2, ("conflict", None)))]
            self.assertEqual(first_fault(rows, []), ("session", 10))
        self.assertEqual(first_fault([*ROWS, connect(0, 9, 1, 5, (4, 2, ("conflict", None)))], []), NO_FAULT)
        self.assertEqual(first_fault([*ROWS, connect(0, 9, 1, 99, (4, 2, ("conflict", None)))], []), NO_FAULT)

    def test_a_connect_with_a_counter(self):
        self.assertEqual(first_fault(changed(ROWS, 3, 4, 1), []), ("session", 3))

    def test_a_command_that_is_not_next(self):
        for index, row in enumerate(ROWS):
            if row[6] != ("connect",):
                for part, value in ((3, row[3] + 1), (3, row[3] - 1), (4, row[4] + 1), (4, row[4] - 1), (4, 0)):
                    self.assertEqual(first_fault(changed(ROWS, index, part, value), []), ("session", index))

    def test_a_command_twice(self):
        for index, row in enumerate(ROWS):
            self.assertEqual(first_fault([*ROWS[:index + 1], row], []), ("session", index + 1))

    def test_no_session_is_open(self):
        self.assertEqual(first_fault([(0, 1, 0, 1, 1, None, MAKE, OK)], []), ("session", 0))
        self.assertEqual(first_fault(changed(ROWS, 2, 2, 2), []), ("session", 2))
        # In a later run a session has to begin anew.
        self.assertEqual(first_fault([*ROWS, write(1, 8, 1, 6, 1, 6)], [7]), ("session", 10))
        self.assertEqual(first_fault([*ROWS, connect(1, 8, 0, 1, (1, 5, OK))], [7]), ("session", 10))

    def test_the_sessions_are_made_from_the_marks_of_the_state(self):
        # The last command of host 1 left no record, so in the run 1 its mark is that of its connect.
        self.assertEqual(first_fault([*ROWS, connect(1, 8, 1, 5)], [7]), NO_FAULT)
        self.assertEqual(first_fault([*ROWS, connect(1, 8, 1, 5, (4, 2, ("conflict", None)))], [7]), ("answer", 10))

    def test_session_comes_ahead_of_answer_and_order(self):
        for index, row in enumerate(ROWS):
            rows = changed(changed(ROWS, index, 7, ("ok", -1)), index, 1, 99)
            self.assertEqual(first_fault(rows, []), ("answer", index))
            self.assertEqual(first_fault(changed(rows, index, 4, row[4] + 7), []), ("session", index))


class AnswerTest(unittest.TestCase):
    """Point [68], 3."""

    def test_another_answer(self):
        for index, row in enumerate(ROWS):
            for answer in (("ok", 99), ("none", None), ("lost", None), None):
                self.assertEqual(first_fault(changed(ROWS, index, 7, answer), []), ("answer", index))

    def test_what_a_host_is_told(self):
        for told in (None, (1, 4, OK), (1, 5, None), (1, 6, OK)):
            self.assertEqual(first_fault(changed(ROWS + AFTER, 10, 7, ("ok", told)), [7]), ("answer", 10))
        # A refused command counts, too, as long as the power does not fail.
        self.assertEqual(first_fault([*ROWS, connect(0, 9, 1, 5)], []), ("answer", 10))

    def test_room(self):
        rows = [connect(0, 1, 0, 1), (0, 2, 0, 1, 1, None, MAKE, OK), write(0, 3, 1, 2),
                (0, 4, 0, 1, 3, None, ("snap", 3), ("ok", 4))]
        for command in (("make", 4, 4), ("write", 3, 5, 1), ("snap", 3), ("register", 3)):
            self.assertEqual(first_fault([*rows, (0, 4, 0, 1, 4, None, command, ROOM)], []), NO_FAULT, command)
            self.assertEqual(first_fault([*rows, (0, 5, 0, 1, 4, None, command, ROOM)], []), ("order", 4), command)
        for command in (("trim", 3, 5), ("drop", 3, 4), ("read", 3, 5), ("view", 3, 4, 5), ("trim", 3, 6), FLUSH,
                        MAKE, ("write", 3, 10, 1), ("remove", 3), ("snap", 4), ("reserve", 3, "write")):
            self.assertEqual(first_fault([*rows, (0, 4, 0, 1, 4, None, command, ROOM)], []), ("answer", 4), command)
        self.assertEqual(first_fault([connect(0, 1, 0, 1), connect(0, 1, 1, 1)[:7] + (ROOM,)], []), ("answer", 1))

    def test_room_for_a_registered_host(self):
        rows = [connect(0, 1, 0, 1), (0, 2, 0, 1, 1, None, MAKE, OK), (0, 3, 0, 1, 2, None, ("register", 3), ("ok", 3)),
                connect(0, 4, 1, 1), (0, 5, 1, 1, 1, None, ("register", 3), ("ok", 5))]
        reserve = ("reserve", 3, "write")
        self.assertEqual(first_fault([*rows, (0, 5, 0, 1, 3, 3, reserve, ROOM)], []), NO_FAULT)
        rows.append((0, 6, 0, 1, 3, 3, reserve, OK))
        # These change nothing, or are never refused for lack of room.
        for command in (reserve, ("register", 3), ("release", 3), ("leave", 3), ("preempt", 3, 1), ("remove", 3)):
            self.assertEqual(first_fault([*rows, (0, 6, 0, 1, 4, 3, command, ROOM)], []), ("answer", 6), command)

    def test_after_a_command_without_room(self):
        rows = [connect(0, 1, 0, 1), (0, 1, 0, 1, 1, None, MAKE, ROOM)]
        self.assertEqual(first_fault([*rows, (0, 1, 0, 1, 2, None, ("read", 3, 1), ("none", None))], []), NO_FAULT)
        self.assertEqual(first_fault([*rows, (0, 2, 0, 1, 2, None, MAKE, OK)], []), NO_FAULT)
        self.assertEqual(first_fault([*rows, connect(0, 2, 0, 2, (1, 1, ROOM))], []), NO_FAULT)

    def test_answer_comes_ahead_of_order(self):
        rows = changed(changed(ROWS, 5, 7, ("ok", 6)), 5, 1, 6)
        self.assertEqual(first_fault(rows, []), ("answer", 5))


class OrderTest(unittest.TestCase):
    """Point [68], 4."""

    def test_another_order(self):
        for index, row in enumerate(ROWS):
            for order in (row[1] - 1, row[1] + 1, 99):
                self.assertEqual(first_fault(changed(ROWS, index, 1, order), []), ("order", index))

    def test_the_first_fault_counts(self):
        rows = changed(changed(ROWS, 7, 1, 99), 3, 7, ("ok", 1))
        self.assertEqual((first_fault(rows, []), judge(rows, [])), (("answer", 3), "answer"))
        self.assertEqual(first_fault(changed(rows, 9, 0, 5), [1, 1, 1]), ("answer", 3))


class WorldTest(unittest.TestCase):
    """Point [69]: histories of worlds have no fault, and forged ones have."""

    def world(self, start, count=300):
        counting = Counting(start)
        world = World(8, 1 + start % 4)
        for _ in range(count):
            world.play(some_acts(counting, world.state(), 6))
            if world.state() is None and counting.happens(60):
                world.play([("cut", counting.below(3))])
        return world

    def test_histories_of_worlds(self):
        rows = cuts = 0
        for start in range(40):
            world = self.world(start)
            self.assertEqual(first_fault(world.history(), world.cuts()), NO_FAULT, start)
            rows, cuts = rows + len(world.history()), cuts + len(world.cuts())
        self.assertGreater(rows, 2000)
        self.assertGreater(cuts, 150)

    def test_forged_rows(self):
        for start in range(8):
            world = self.world(start, 60)
            rows, cuts = world.history(), world.cuts()
            for index, row in enumerate(rows):
                forged = ((0, len(cuts) + 1, "run"), (4, row[4] + 1, "session"), (7, ("ok", 10**9), "answer"),
                          (1, row[1] + 1, "order"), (1, row[1] - 1, "order"))
                for part, value, word in forged:
                    self.assertEqual(first_fault(changed(rows, index, part, value), cuts), (word, index))

    def test_forged_cuts(self):
        for start in range(8):
            world = self.world(start, 60)
            rows, cuts = world.history(), world.cuts()
            for run in range(1, len(cuts) + 1):
                # Behind the greatest order of the run before no run can go on.
                top = max([row[1] for row in rows if row[0] == run - 1] + [cuts[run - 2] if run > 1 else 0])
                index = len([row for row in rows if row[0] < run])
                self.assertEqual(first_fault(rows, changed([tuple(cuts)], 0, run - 1, top + 1)[0]), ("cut", index))


if __name__ == "__main__":
    unittest.main()
