"""Points [42] to [48]: marks, what a host is told, connecting, the words for a command, what is carried out."""

import unittest

from samples import refuses

from spindlegate.records import make_record
from spindlegate.sessions import Sessions
from spindlegate.state import fold

OK = ("ok", None)
MARK = (7, 5, OK, (3, 2, ("ok", 9)))


def begun(number, *answers):
    """The sessions of host 2 after MARK, its session with this number, and commands with these answers."""
    sessions = Sessions({2: MARK})
    sessions.begin(2, number)
    for answer in answers:
        sessions.keep(2, answer)
    return sessions


class ExampleTest(unittest.TestCase):
    def test_the_example(self):
        sessions = Sessions({2: (7, 5, OK, None)})
        self.assertEqual(sessions.kind_of(2, 7, 6), "lost")
        self.assertEqual(sessions.begin(2, 8), (7, 5, OK))
        self.assertEqual(sessions.kind_of(2, 7, 6), "old")
        self.assertEqual(sessions.kind_of(2, 8, 1), "next")
        self.assertEqual(sessions.next_told(2), (7, 5, OK))


class MarksTest(unittest.TestCase):
    """Points [43] and [45]."""

    def test_at_first(self):
        sessions = Sessions({2: MARK})
        for host in range(4):
            self.assertIs(sessions.is_open(host), False)
            self.assertEqual(sessions.mark_of(host), MARK if host == 2 else None)

    def test_the_marks_that_are_passed_stay(self):
        marks = {2: MARK}
        sessions = Sessions(marks)
        sessions.begin(2, 8)
        sessions.begin(0, 1)
        sessions.keep(2, OK)
        self.assertEqual(marks, {2: MARK})
        self.assertEqual(sessions.mark_of(2), (8, 1, OK, (7, 5, OK)))

    def test_marks_that_change_later_change_nothing(self):
        marks = {2: MARK}
        sessions = Sessions(marks)
        marks[2] = (9, 9, OK, None)
        marks[0] = MARK
        self.assertEqual((sessions.mark_of(2), sessions.mark_of(0)), (MARK, None))

    def test_the_marks_of_a_state(self):
        records = [make_record(1, "mark", 1, 4, 0, ((3, 1, OK),)), make_record(2, "make", 1, 4, 1, (7, 4)),
                   make_record(3, "snap", 1, 4, 3, (7,))]
        sessions = Sessions(fold(records)["marks"])
        self.assertEqual(sessions.mark_of(1), (4, 3, ("ok", 3), (3, 1, OK)))
        self.assertEqual(sessions.next_told(1), (4, 3, ("ok", 3)))
        self.assertIs(sessions.is_open(1), False)


class ToldTest(unittest.TestCase):
    """Point [44]."""

    def test_without_a_mark(self):
        sessions = Sessions({2: MARK})
        self.assertIsNone(sessions.next_told(0))
        self.assertIsNone(sessions.begin(0, 3))
        self.assertEqual(sessions.mark_of(0), (3, 0, None, None))
        self.assertIsNone(sessions.next_told(0))

    def test_with_a_command(self):
        self.assertEqual(Sessions({2: MARK}).next_told(2), (7, 5, OK))
        self.assertEqual(Sessions({1: (2, 1, ("place", None), None)}).next_told(1), (2, 1, ("place", None)))

    def test_without_a_command(self):
        told = (3, 2, ("ok", 9))
        sessions = Sessions({2: (7, 0, None, told), 1: (4, 0, None, None)})
        self.assertEqual((sessions.next_told(2), sessions.next_told(1)), (told, None))
        self.assertEqual(sessions.begin(2, 8), told)
        self.assertIsNone(sessions.begin(1, 8))

    def test_asking_changes_nothing(self):
        sessions = Sessions({2: MARK})
        sessions.next_told(2)
        self.assertEqual((sessions.mark_of(2), sessions.is_open(2)), (MARK, False))

    def test_after_several_sessions_without_a_command(self):
        sessions = begun(8, OK, ("none", None))
        for number in (9, 12, 13):
            self.assertEqual(sessions.begin(2, number), (8, 2, ("none", None)))
            self.assertEqual(sessions.mark_of(2), (number, 0, None, (8, 2, ("none", None))))
        sessions.keep(2, ("ok", 4))
        self.assertEqual(sessions.mark_of(2), (13, 1, ("ok", 4), (8, 2, ("none", None))))
        self.assertEqual(sessions.begin(2, 14), (13, 1, ("ok", 4)))


class ConnectingTest(unittest.TestCase):
    """Point [46]."""

    def test_each_word(self):
        sessions = Sessions({2: MARK})
        for number, word in ((1, "old"), (6, "old"), (7, "again"), (8, "new"), (100, "new")):
            self.assertEqual(sessions.connecting(2, number), word)
        for number in (1, 2, 7, 100):
            self.assertEqual(sessions.connecting(0, number), "new")
        self.assertEqual((sessions.mark_of(2), sessions.mark_of(0)), (MARK, None))
        self.assertEqual((sessions.is_open(2), sessions.is_open(0)), (False, False))

    def test_after_a_session_began(self):
        sessions = begun(9)
        for number, word in ((7, "old"), (8, "old"), (9, "again"), (10, "new")):
            self.assertEqual(sessions.connecting(2, number), word)

    def test_begin(self):
        sessions = Sessions({2: MARK})
        self.assertEqual(sessions.begin(2, 20), (7, 5, OK))
        self.assertEqual(sessions.mark_of(2), (20, 0, None, (7, 5, OK)))
        self.assertIs(sessions.is_open(2), True)
        self.assertIs(sessions.is_open(1), False)

    def test_begin_refuses_what_is_not_new(self):
        sessions = Sessions({2: MARK})
        for number in (1, 6, 7):
            self.assertTrue(refuses(sessions.begin, 2, number))
            self.assertEqual((sessions.mark_of(2), sessions.is_open(2)), (MARK, False))
        sessions = begun(8, OK)
        for number in (7, 8):
            self.assertTrue(refuses(sessions.begin, 2, number))
            self.assertEqual((sessions.mark_of(2), sessions.is_open(2)), ((8, 1, OK, (7, 5, OK)), True))


class WordsTest(unittest.TestCase):
    """Point [47]."""

    def test_each_word(self):
        sessions = begun(9, OK, OK, OK)
        cases = {
            "old": [(7, 5), (7, 6), (8, 1), (8, 3), (8, 4), (8, 99), (9, 1), (9, 2)],
            "again": [(9, 3)],
            "next": [(9, 4)],
            "early": [(9, 5), (9, 99), (10, 1), (10, 3), (10, 4), (99, 1)],
        }
        for word, commands in cases.items():
            for session, counter in commands:
                self.assertEqual(sessions.kind_of(2, session, counter), word, (session, counter))

    def test_before_the_first_command(self):
        sessions = begun(9)
        for counter, word in ((1, "next"), (2, "early")):
            self.assertEqual(sessions.kind_of(2, 9, counter), word)

    def test_lost_comes_first(self):
        sessions = Sessions({2: MARK})
        for host in (0, 2):
            for command in ((6, 1), (7, 4), (7, 5), (7, 6), (7, 7), (8, 1)):
                self.assertEqual(sessions.kind_of(host, *command), "lost")

    def test_asking_changes_nothing(self):
        sessions = begun(9, OK)
        for counter in range(1, 5):
            sessions.kind_of(2, 9, counter)
        self.assertEqual(sessions.mark_of(2), (9, 1, OK, (7, 5, OK)))


class KeepTest(unittest.TestCase):
    """Point [48]."""

    def test_the_mark_has_the_next_counter_and_the_answer(self):
        sessions = begun(9)
        for counter, answer in enumerate([OK, ("ok", 70), ("place", None), ("room", None)], 1):
            self.assertEqual(sessions.kind_of(2, 9, counter), "next")
            sessions.keep(2, answer)
            self.assertEqual(sessions.mark_of(2), (9, counter, answer, (7, 5, OK)))
            self.assertEqual(sessions.kind_of(2, 9, counter), "again")

    def test_no_open_session(self):
        sessions = Sessions({2: MARK})
        for host in (0, 2):
            self.assertTrue(refuses(sessions.keep, host, OK))
        self.assertEqual((sessions.mark_of(2), sessions.mark_of(0)), (MARK, None))

    def test_a_refused_command_counts_too(self):
        sessions = begun(9, ("conflict", None))
        self.assertEqual(sessions.kind_of(2, 9, 1), "again")
        self.assertEqual(sessions.begin(2, 10), (9, 1, ("conflict", None)))

    def test_kept_answer(self):
        sessions = begun(9, OK, ("ok", 70))
        self.assertEqual(sessions.kept_answer(2, 9, 2), ("ok", 70))
        for command in ((9, 0), (9, 1), (9, 3), (8, 2), (10, 2), (7, 5)):
            self.assertIsNone(sessions.kept_answer(2, *command))

    def test_no_answer_is_kept_at_first(self):
        self.assertIsNone(begun(9).kept_answer(2, 9, 0))
        sessions = Sessions({2: MARK, 1: (4, 0, OK, None)})
        self.assertIsNone(sessions.kept_answer(2, 7, 5))
        self.assertIsNone(sessions.kept_answer(0, 1, 1))
        sessions.begin(1, 5)
        self.assertIsNone(sessions.kept_answer(1, 5, 0))

    def test_hosts_have_nothing_to_do_with_each_other(self):
        sessions = Sessions({})
        sessions.begin(0, 1)
        sessions.begin(3, 5)
        sessions.keep(3, ("ok", 8))
        self.assertEqual(sessions.mark_of(0), (1, 0, None, None))
        self.assertEqual(sessions.mark_of(3), (5, 1, ("ok", 8), None))
        self.assertEqual((sessions.kind_of(0, 1, 1), sessions.kind_of(3, 5, 2)), ("next", "next"))
        self.assertIsNone(sessions.kept_answer(0, 5, 1))


if __name__ == "__main__":
    unittest.main()
