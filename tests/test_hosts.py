"""Points [56] to [60]: sessions and counters, keys, the letters a host takes, and what has become of its commands."""

import unittest

from spindlegate.hosts import Host

OK = ("ok", None)
LOST = ("lost", None)
WRITE = ("write", 3, 5, 50)


def all_of(host):
    keys = [host.key(namespace) for namespace in range(1, 9)]
    return (host.number, host.session, host.counter, host.state, host.again(), keys, host.ended(), host.lost())


def connected(number=2, told=None):
    host = Host(number)
    connect(host, told)
    return host


def connect(host, told=None):
    host.begin(("flush",))
    assert host.take(("connected", host.number, host.session, told, 9))


def waiting(command=WRITE, number=2):
    """A host whose first command is under way."""
    host = connected(number)
    host.begin(command)
    return host


def answer(host, value):
    return ("answer", host.number, host.session, host.counter, value, 9)


def lost(host):
    """The letter that tells that the power failed."""
    return ("no", host.number, host.session, host.counter, "lost", 1)


def do(host, command, value=OK):
    """The host sends a command and takes its answer; returns the letter."""
    letter = host.begin(command)
    assert host.take(answer(host, value))
    return letter


class BeginTest(unittest.TestCase):
    """Point [56]."""

    def test_a_new_host(self):
        self.assertEqual(all_of(Host(3)), (3, 0, 0, "new", None, [None] * 8, [], []))

    def test_it_connects_first(self):
        host = Host(2)
        self.assertEqual(host.begin(WRITE), ("connect", 2, 1))
        self.assertEqual(all_of(host), (2, 1, 0, "connecting", ("connect", 2, 1), [None] * 8, [], []))
        self.assertTrue(host.take(("connected", 2, 1, None, 5)))
        self.assertEqual(all_of(host), (2, 1, 0, "idle", None, [None] * 8, [], []))

    def test_then_it_sends_commands(self):
        host = connected()
        for counter, command in enumerate((WRITE, ("make", 3, 4), ("flush",), ("read", 3, 4)), 1):
            letter = ("do", 2, 1, counter, None, command)
            self.assertEqual(host.begin(command), letter)
            self.assertEqual((host.session, host.counter, host.state, host.again()), (1, counter, "waiting", letter))
            self.assertTrue(host.take(("answer", 2, 1, counter, ("ok", counter), 9)))
            self.assertEqual((host.session, host.counter, host.state, host.again()), (1, counter, "idle", None))
            self.assertEqual(host.ended()[-1], (1, counter, command, ("ok", counter)))
        self.assertEqual(len(host.ended()), 4)

    def test_at_most_one_letter_is_under_way(self):
        host = Host(2)
        host.begin(WRITE)
        before = all_of(host)
        self.assertIsNone(host.begin(("flush",)))
        self.assertEqual(all_of(host), before)
        host = waiting()
        before = all_of(host)
        self.assertIsNone(host.begin(("flush",)))
        self.assertEqual(all_of(host), before)

    def test_each_session_is_one_greater(self):
        host = waiting()
        for session in (1, 2, 3):
            self.assertEqual((host.session, host.counter), (session, 1))
            host.take(lost(host))
            self.assertEqual((host.session, host.counter, host.state), (session, 1, "new"))
            self.assertEqual(host.begin(WRITE), ("connect", 2, session + 1))
            self.assertEqual((host.session, host.counter, host.state), (session + 1, 0, "connecting"))
            host.take(("connected", 2, session + 1, None, 9))
            self.assertEqual(host.begin(WRITE), ("do", 2, session + 1, 1, None, WRITE))


class KeyTest(unittest.TestCase):
    """Point [57]."""

    def test_which_commands_are_sent_with_a_key(self):
        keyed = [("remove", 3), WRITE, ("trim", 3, 5), ("read", 3, 5), ("snap", 3), ("view", 3, 4, 5), ("drop", 3, 4),
                 ("leave", 3), ("reserve", 3, "write"), ("release", 3), ("preempt", 3, 1)]
        for command in [*keyed, ("make", 3, 4), ("register", 3), ("flush",)]:
            host = connected()
            self.assertEqual(host.begin(command), ("do", 2, 1, 1, None, command))
            host = connected()
            do(host, ("register", 3), ("ok", 17))
            self.assertEqual(host.begin(command), ("do", 2, 1, 2, 17 if command in keyed else None, command))

    def test_a_key_is_that_of_its_namespace(self):
        host = connected()
        do(host, ("register", 3), ("ok", 17))
        do(host, ("register", 8), ("ok", 19))
        self.assertEqual([host.key(namespace) for namespace in range(1, 9)], [None, None, 17, *[None] * 4, 19])
        self.assertEqual(do(host, ("read", 8, 1))[4], 19)
        self.assertIsNone(do(host, ("read", 1, 1))[4])

    def test_the_last_register_counts(self):
        host = connected()
        do(host, ("register", 3), ("ok", 17))
        do(host, ("register", 3), ("ok", 23))
        self.assertEqual((host.key(3), do(host, WRITE)[4]), (23, 23))

    def test_leave_and_remove_end_it(self):
        for word in ("leave", "remove"):
            host = connected()
            do(host, ("register", 3), ("ok", 17))
            do(host, ("register", 4), ("ok", 18))
            self.assertEqual(do(host, (word, 3), ("conflict", None))[4], 17)
            self.assertEqual(host.key(3), 17)
            self.assertEqual(do(host, (word, 3))[4], 17)
            self.assertEqual((host.key(3), host.key(4)), (None, 18))
            self.assertIsNone(do(host, WRITE)[4])
            do(host, (word, 3))
            self.assertIsNone(host.key(3))

    def test_other_answers_change_no_key(self):
        host = connected()
        do(host, ("register", 3), ("room", None))
        self.assertIsNone(host.key(3))
        do(host, ("register", 3), ("ok", 17))
        for command, value in ((WRITE, ("conflict", None)), (("register", 3), ("none", None)), (("snap", 3), ("ok", 40)),
                               (("preempt", 3, 1), OK), (("release", 3), OK), (("make", 3, 4), OK)):
            do(host, command, value)
            self.assertEqual(host.key(3), 17)

    def test_a_key_outlives_its_session(self):
        host = connected()
        do(host, ("register", 3), ("ok", 17))
        host.begin(WRITE)
        host.take(lost(host))
        self.assertEqual(host.key(3), 17)
        connect(host, (1, 1, ("ok", 17)))
        self.assertEqual(host.begin(WRITE), ("do", 2, 2, 1, 17, WRITE))

    def test_a_register_whose_answer_is_told_by_the_connect(self):
        host = waiting(("register", 3))
        host.take(lost(host))
        self.assertIsNone(host.key(3))
        connect(host, (1, 1, ("ok", 17)))
        self.assertEqual(host.key(3), 17)

    def test_a_register_that_is_lost(self):
        host = waiting(("register", 3))
        host.take(lost(host))
        connect(host, None)
        self.assertIsNone(host.key(3))

    def test_a_leave_whose_answer_is_told_by_the_connect(self):
        for told, key in (((1, 2, OK), None), ((1, 1, ("ok", 17)), 17)):
            host = connected()
            do(host, ("register", 3), ("ok", 17))
            host.begin(("leave", 3))
            host.take(lost(host))
            connect(host, told)
            self.assertEqual(host.key(3), key)


class TakeTest(unittest.TestCase):
    """Point [58]."""

    def passes_over(self, host, letters):
        before = all_of(host)
        for letter in letters:
            self.assertIs(host.take(letter), False, letter)
            self.assertEqual(all_of(host), before, letter)

    def test_nothing_is_under_way(self):
        letters = [("connected", 2, 0, None, 5), ("connected", 2, 1, None, 5), ("answer", 2, 1, 1, OK, 5),
                   ("answer", 2, 1, 0, OK, 5), ("answer", 2, 0, 0, OK, 5), ("no", 2, 1, 0, "old", 0),
                   ("no", 2, 0, 0, "old", 0), ("no", 2, 1, 0, "lost", 0), ("no", 2, 1, 1, "lost", 0)]
        self.passes_over(Host(2), letters)
        self.passes_over(connected(), letters)
        host = connected()
        do(host, WRITE)
        self.passes_over(host, letters)
        host.begin(WRITE)
        host.take(lost(host))
        self.passes_over(host, letters + [("no", 2, 1, 2, "lost", 1), ("answer", 2, 1, 2, OK, 5)])

    def test_connecting(self):
        host = connected()
        host.begin(WRITE)
        host.take(lost(host))
        host.begin(WRITE)
        self.passes_over(host, [
            ("connected", 2, 1, None, 5), ("connected", 2, 3, None, 5), ("connected", 1, 2, None, 5),
            ("no", 2, 1, 0, "old", 1), ("no", 2, 3, 0, "old", 1), ("no", 0, 2, 0, "old", 1), ("no", 2, 2, 0, "lost", 1),
            ("no", 2, 2, 0, "early", 1), ("no", 2, 2, 1, "old", 1), ("no", 2, 1, 1, "lost", 1),
            ("answer", 2, 1, 1, OK, 5), ("answer", 2, 2, 0, OK, 5), ("connect", 2, 2), ("connected", 2, 2),
            ("do", 2, 2, 1, None, WRITE),
        ])
        self.assertIs(host.take(("connected", 2, 2, None, 5)), True)
        self.assertEqual((host.session, host.counter, host.state, host.again()), (2, 0, "idle", None))

    def test_old_to_a_connect(self):
        host = Host(2)
        host.begin(WRITE)
        for number in (2, 3, 4):
            self.assertIs(host.take(("no", 2, number - 1, 0, "old", 6)), True)
            self.assertEqual(all_of(host), (2, number, 0, "connecting", ("connect", 2, number), [None] * 8, [], []))
            self.assertIsNone(host.begin(WRITE))
            self.assertEqual(host.again(), ("connect", 2, number))
            self.passes_over(host, [("no", 2, number - 1, 0, "old", 6), ("connected", 2, number - 1, None, 6)])
        host.take(("connected", 2, 4, (3, 7, OK), 6))
        self.assertEqual(host.begin(WRITE), ("do", 2, 4, 1, None, WRITE))

    def test_waiting(self):
        host = connected()
        do(host, WRITE)
        host.begin(("flush",))
        self.passes_over(host, [
            ("answer", 2, 1, 1, OK, 5), ("answer", 2, 1, 3, OK, 5), ("answer", 2, 2, 2, OK, 5),
            ("answer", 2, 0, 2, OK, 5), ("answer", 1, 1, 2, OK, 5), ("no", 2, 1, 1, "lost", 1),
            ("no", 2, 1, 3, "lost", 1), ("no", 2, 2, 2, "lost", 1), ("no", 3, 1, 2, "lost", 1),
            ("no", 2, 1, 2, "old", 1), ("no", 2, 1, 2, "early", 1), ("no", 2, 1, 0, "old", 1),
            ("connected", 2, 1, None, 5), ("connected", 2, 2, None, 5), ("answer", 2, 1, 2), ("do", 2, 1, 2, None, WRITE),
        ])
        self.assertIs(host.take(("answer", 2, 1, 2, ("ok", 4), 7)), True)
        self.assertEqual(host.ended(), [(1, 1, WRITE, OK), (1, 2, ("flush",), ("ok", 4))])

    def test_an_answer_that_comes_twice(self):
        host = waiting()
        letter = answer(host, OK)
        self.assertIs(host.take(letter), True)
        self.passes_over(host, [letter])
        host.begin(WRITE)
        self.passes_over(host, [letter])
        self.assertEqual(host.ended(), [(1, 1, WRITE, OK)])

    def test_refusals_are_answers(self):
        for word in ("exists", "none", "conflict", "place", "held", "room"):
            host = waiting()
            self.assertIs(host.take(answer(host, (word, None))), True)
            self.assertEqual((host.state, host.ended()), ("idle", [(1, 1, WRITE, (word, None))]))

    def test_lost_to_a_command(self):
        host = waiting()
        self.assertIs(host.take(("no", 2, 1, 1, "lost", 1)), True)
        self.assertEqual(all_of(host), (2, 1, 1, "new", None, [None] * 8, [], []))


class ToldTest(unittest.TestCase):
    """Point [59]."""

    def after(self, answered, is_under_way, told):
        """A host that is told this after a session with so many answered commands, and perhaps one under way."""
        host = connected()
        for counter in range(1, answered + 1):
            do(host, ("write", 3, counter, 1), ("ok", counter))
        host.begin(("write", 3, answered + 1, 1))
        if not is_under_way:
            host.take(answer(host, ("ok", answered + 1)))
            # What the host begins next is not carried out any more, so it is a command as well.
            host.begin(("flush",))
        host.take(lost(host))
        connect(host, told)
        return host

    def test_the_command_under_way_lasts(self):
        host = self.after(2, True, (1, 3, ("ok", 70)))
        self.assertEqual(host.ended()[-1], (1, 3, ("write", 3, 3, 1), ("ok", 70)))
        self.assertEqual((len(host.ended()), host.lost()), (3, []))

    def test_the_command_under_way_is_lost(self):
        host = self.after(2, True, (1, 2, ("ok", 2)))
        self.assertEqual(host.ended()[-1], (1, 3, ("write", 3, 3, 1), LOST))
        self.assertEqual((len(host.ended()), host.lost()), (3, [(1, 3)]))

    def test_answered_commands_are_lost_too(self):
        host = self.after(4, True, (1, 2, ("ok", 2)))
        self.assertEqual(host.lost(), [(1, 3), (1, 4), (1, 5)])
        self.assertEqual([row[3] for row in host.ended()], [("ok", 1), ("ok", 2), ("ok", 3), ("ok", 4), LOST])

    def test_told_of_another_session_or_of_nothing(self):
        for told in (None, (2, 3, OK), (7, 1, OK), (7, 99, OK)):
            host = self.after(2, True, told)
            self.assertEqual(host.lost(), [(1, 1), (1, 2), (1, 3)], told)
            self.assertEqual(host.ended()[-1], (1, 3, ("write", 3, 3, 1), LOST))

    def test_told_of_counter_0(self):
        self.assertEqual(self.after(1, True, (1, 0, None)).lost(), [(1, 1), (1, 2)])

    def test_it_is_not_known_before_the_next_connect(self):
        host = waiting()
        host.take(lost(host))
        self.assertEqual((host.ended(), host.lost()), ([], []))
        host.begin(WRITE)
        self.assertEqual((host.ended(), host.lost()), ([], []))
        host.take(("connected", 2, 2, None, 9))
        self.assertEqual((host.ended(), host.lost()), ([(1, 1, WRITE, LOST)], [(1, 1)]))

    def test_the_first_connect(self):
        for told in (None, (7, 5, OK), (1, 5, OK)):
            host = connected(2, told)
            self.assertEqual((host.ended(), host.lost()), ([], []))

    def test_the_session_before_is_the_last_one_that_was_connected(self):
        host = waiting()
        do_again = answer(host, OK)
        host.take(do_again)
        host.begin(WRITE)
        host.take(lost(host))
        host.begin(WRITE)
        # The number 2 is old, so the host is connected with 3 first.
        host.take(("no", 2, 2, 0, "old", 1))
        host.take(("connected", 2, 3, (1, 1, OK), 9))
        self.assertEqual((host.lost(), host.ended()[1:]), ([(1, 2)], [(1, 2, WRITE, LOST)]))

    def test_a_session_is_looked_at_once(self):
        host = self.after(1, True, (1, 1, OK))
        self.assertEqual(host.lost(), [(1, 2)])
        ended = host.ended()
        # Session 2 has one command; what is told of session 1 says that it does not last.
        host.begin(("flush",))
        host.take(lost(host))
        connect(host, (1, 1, OK))
        self.assertEqual(host.lost(), [(1, 2), (2, 1)])
        self.assertEqual(host.ended(), [*ended, (2, 1, ("flush",), LOST)])
        host.begin(("flush",))
        host.take(lost(host))
        connect(host, (3, 1, OK))
        self.assertEqual((host.lost(), host.ended()[-1]), ([(1, 2), (2, 1)], (3, 1, ("flush",), OK)))

    def test_returned_lists_are_not_changed_later(self):
        host = self.after(3, True, (1, 1, OK))
        ended, lost_before = host.ended(), host.lost()
        copies = (list(ended), list(lost_before))
        host.begin(WRITE)
        host.take(lost(host))
        connect(host)
        self.assertEqual((ended, lost_before), copies)
        self.assertEqual((len(host.ended()), len(host.lost())), (len(ended) + 1, len(lost_before) + 1))
        ended.clear()
        lost_before.clear()
        self.assertEqual((len(host.ended()), len(host.lost())), (5, 4))


class AgainTest(unittest.TestCase):
    """Point [60]."""

    def test_what_is_sent_again_is_the_same(self):
        host = Host(2)
        self.assertIsNone(host.again())
        letter = host.begin(WRITE)
        for _ in range(3):
            self.assertEqual(host.again(), letter)
        host.take(("connected", 2, 1, None, 9))
        self.assertIsNone(host.again())
        do(host, ("register", 3), ("ok", 17))
        letter = host.begin(WRITE)
        self.assertEqual(letter, ("do", 2, 1, 2, 17, WRITE))
        host.begin(("flush",))
        host.take(("answer", 2, 1, 1, ("ok", 18), 9))
        for _ in range(3):
            self.assertEqual(host.again(), letter)
        host.take(lost(host))
        self.assertIsNone(host.again())


if __name__ == "__main__":
    unittest.main()
