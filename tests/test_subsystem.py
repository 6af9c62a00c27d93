"""Points [49] to [53]: letters and their answers, commands, the answers that are due, rows, and what is flushed."""

import unittest

from counting import Counting, a_command
from plain import FLUSHED, Plain
from samples import NO_INTEGERS, expect_power_off, refuses

from spindlegate.errors import PowerOff
from spindlegate.flash import Flash, flash_from
from spindlegate.records import make_record
from spindlegate.state import fold
from spindlegate.store import Store
from spindlegate.subsystem import Subsystem, answer_due, is_command, namespace_of

OK = ("ok", None)
NONE = ("none", None)
CONFLICT = ("conflict", None)

# For each word a command of the table.
COMMANDS = {
    "make": ("make", 3, 10), "remove": ("remove", 3), "write": ("write", 3, 5, 50), "trim": ("trim", 3, 5),
    "read": ("read", 3, 5), "snap": ("snap", 3), "view": ("view", 3, 4, 5), "drop": ("drop", 3, 4),
    "register": ("register", 3), "leave": ("leave", 3), "reserve": ("reserve", 3, "write"),
    "release": ("release", 3), "preempt": ("preempt", 3, 1), "flush": ("flush",),
}
# For each part of a command: values at the bounds, and values outside of them.
NAMESPACES = ((1, 8), (0, 9, -1))
SIZES = ((1, 64), (0, 65))
PLACES = ((0, 63), (64, -1))
SNAPSHOTS = ((1, 10**9), (0, -1))
VICTIMS = ((0, 3), (4, -1))
VALUES = ((0, -10**30, 10**30), ())
WAYS = (("write", "alone"), ("", "read", "Write", "none"))
BOUNDS = {
    "make": (NAMESPACES, SIZES), "remove": (NAMESPACES,), "write": (NAMESPACES, PLACES, VALUES),
    "trim": (NAMESPACES, PLACES), "read": (NAMESPACES, PLACES), "snap": (NAMESPACES,),
    "view": (NAMESPACES, SNAPSHOTS, PLACES), "drop": (NAMESPACES, SNAPSHOTS), "register": (NAMESPACES,),
    "leave": (NAMESPACES,), "reserve": (NAMESPACES, WAYS), "release": (NAMESPACES,),
    "preempt": (NAMESPACES, VICTIMS), "flush": (),
}


class Hosts:
    """Hosts that send letters to a subsystem; each one counts its commands and keeps no keys."""

    def __init__(self, store=None, run=0):
        self.subsystem = Subsystem(store or Store(Flash(8)), run)
        self.store = self.subsystem.store
        self.sessions = {}
        self.counters = {}

    def connect(self, host, number=None):
        """Connect; returns the answering letter."""
        mark = self.subsystem.sessions.mark_of(host)
        self.sessions[host] = number or (1 if mark is None else mark[0] + 1)
        self.counters[host] = 0
        return self.subsystem.carry_out(("connect", host, self.sessions[host]))

    def letter(self, host, command, key=None):
        return ("do", host, self.sessions[host], self.counters[host] + 1, key, command)

    def send(self, host, command, key=None):
        """Send the next command; returns the answering letter."""
        if host not in self.sessions:
            self.connect(host)
        letter = self.letter(host, command, key)
        self.counters[host] += 1
        return self.subsystem.carry_out(letter)

    def do(self, host, command, key=None):
        """Send the next command; returns its answer."""
        answering = self.send(host, command, key)
        assert answering[:4] == ("answer", host, self.sessions[host], self.counters[host]), answering
        return answering[4]

    def waiting(self):
        return [record[0] for record in self.store.waiting]


def all_of(subsystem):
    """What can be told of a subsystem, and of what is under it."""
    store = subsystem.store
    marks = [subsystem.sessions.mark_of(host) for host in range(4)]
    is_open = [subsystem.sessions.is_open(host) for host in range(4)]
    return (store.state, store.waiting, store.flash.image(), subsystem.rows(), marks, is_open)


def busy():
    """Host 0 has made the namespace 3; then a write, a snapshot 4, another write and a register with the key 6."""
    hosts = Hosts()
    for command in (("make", 3, 10), ("write", 3, 5, 50), ("snap", 3), ("write", 3, 6, 60), ("register", 3)):
        assert hosts.do(0, command)[0] == "ok"
    return hosts


class ExampleTest(unittest.TestCase):
    def test_the_example(self):
        subsystem = Subsystem(Store(Flash(8)), 0)
        self.assertEqual(subsystem.carry_out(("connect", 0, 1)), ("connected", 0, 1, None, 1))
        self.assertEqual(subsystem.carry_out(("do", 0, 1, 1, None, ("make", 3, 10))), ("answer", 0, 1, 1, OK, 2))
        self.assertEqual(subsystem.carry_out(("do", 0, 1, 2, None, ("write", 3, 10, 5)))[4], ("place", None))

    def test_the_fields(self):
        store = Store(Flash(8))
        subsystem = Subsystem(store, 5)
        self.assertIs(subsystem.store, store)
        self.assertEqual((subsystem.run, subsystem.rows()), (5, []))
        self.assertIsNone(subsystem.sessions.mark_of(0))

    def test_the_marks_are_those_of_the_state(self):
        hosts = busy()
        opened = Subsystem(Store(hosts.store.flash), 1)
        self.assertEqual(opened.sessions.mark_of(0), (1, 5, ("ok", 6), None))
        self.assertIs(opened.sessions.is_open(0), False)
        self.assertEqual(opened.rows(), [])


class CommandTest(unittest.TestCase):
    """Point [50]: what is a command."""

    def test_each_word(self):
        self.assertEqual(list(COMMANDS), list(BOUNDS))
        for command in COMMANDS.values():
            self.assertIs(is_command(command), True, command)

    def test_each_part_at_its_bounds_and_outside(self):
        for word, bounds in BOUNDS.items():
            for at, (inside, outside) in enumerate(bounds, 1):
                for good in inside:
                    self.assertIs(is_command(self.changed(word, at, good)), True, (word, at, good))
                for bad in (*outside, *NO_INTEGERS):
                    self.assertIs(is_command(self.changed(word, at, bad)), False, (word, at, bad))

    def changed(self, word, at, part):
        command = COMMANDS[word]
        return command[:at] + (part,) + command[at + 1:]

    def test_too_few_and_too_many_parts(self):
        for command in COMMANDS.values():
            self.assertIs(is_command(command[:-1]), False)
            self.assertIs(is_command(command + (1,)), False)

    def test_what_is_no_command(self):
        for value in (None, True, 0, 7, "", "flush", (), [], {}, ["flush"], ["make", 3, 10], {"flush": 1}, ("connect",),
                      ("mark", None), ("Make", 3, 10), ("", 3), (None, 3), (7, 3), (("make",), 3), (["make"], 3),
                      ("do",), b"flush", (b"flush",), 1.5, {1}, ({},)):
            self.assertIs(is_command(value), False, value)

    def test_namespace_of(self):
        for word, command in COMMANDS.items():
            self.assertEqual(namespace_of(command), None if word == "flush" else 3)


class LetterTest(unittest.TestCase):
    """Point [49]."""

    def test_letters_that_are_none(self):
        hosts = busy()
        before = all_of(hosts.subsystem)
        command = ("read", 3, 5)
        letters = [None, 7, "connect", (), ("connect",), ("connect", 0), ("connect", 0, 2, 3), ["connect", 0, 2],
                   ("hello", 0, 2), ("", 0, 2), (None, 0, 2), ("do", 0, 1), ("do", 0, 1, 6, 6),
                   ["do", 0, 1, 6, 6, command], ("do", 0, 1, 6, 6, command, 1), ("answer", 0, 1, 6, 6, command),
                   ("connect", 0, 1, 6, 6, command), ("do", 0, 2), ("connected", 0, 2, None, 3)]
        letters += [("connect", host, 2) for host in (*NO_INTEGERS, -1, 4)]
        letters += [("connect", 0, number) for number in (*NO_INTEGERS, 0, -1)]
        letters += [("do", host, 1, 6, 6, command) for host in (*NO_INTEGERS, -1, 4)]
        letters += [("do", 0, session, 6, 6, command) for session in (*NO_INTEGERS, -1, 0)]
        letters += [("do", 0, 1, counter, 6, command) for counter in (*NO_INTEGERS, -1, 0)]
        letters += [("do", 0, 1, 6, key, command) for key in (*NO_INTEGERS, -1, 0) if key is not None]
        letters += [("do", 0, 1, 6, 6, value) for value in (None, (), ["flush"], ("read", 3), ("read", 9, 5),
                                                            ("read", 3, True), ("connect",), "flush")]
        for letter in letters:
            self.assertTrue(refuses(hosts.subsystem.carry_out, letter), letter)
            self.assertEqual(all_of(hosts.subsystem), before, letter)
        self.assertEqual(hosts.do(0, command, 6), ("ok", 50))

    def test_each_host(self):
        for host in range(4):
            hosts = Hosts(None, 9)
            self.assertEqual(hosts.connect(host, 7), ("connected", host, 7, None, 1))
            self.assertEqual(hosts.send(host, ("make", 3, 4)), ("answer", host, 7, 1, OK, 2))
            self.assertEqual(hosts.connect(host, 6), ("no", host, 6, 0, "old", 9))

    def test_a_connect_that_is_new(self):
        hosts = busy()
        self.assertEqual(hosts.send(0, ("read", 3, 5), 6), ("answer", 0, 1, 6, ("ok", 50), 6))
        self.assertEqual(hosts.connect(0, 4), ("connected", 0, 4, (1, 6, ("ok", 50)), 7))
        self.assertEqual(hosts.store.records()[-1], (7, "mark", 0, 4, 0, (1, 6, ("ok", 50))))
        self.assertEqual(hosts.connect(0, 5), ("connected", 0, 5, (1, 6, ("ok", 50)), 8))
        self.assertEqual(hosts.store.lasting_order(), 8)

    def test_a_connect_that_is_again(self):
        hosts = busy()
        hosts.connect(0, 4)
        hosts.do(0, ("write", 3, 5, 51), 6)
        before = all_of(hosts.subsystem)
        for _ in range(3):
            self.assertEqual(hosts.connect(0, 4), ("connected", 0, 4, (1, 5, ("ok", 6)), 8))
            self.assertEqual(all_of(hosts.subsystem), before)
        self.assertEqual(hosts.waiting(), [8])

    def test_a_connect_that_is_again_in_a_later_run_opens_no_session(self):
        hosts = Hosts(Store(busy().store.flash), 1)
        self.assertEqual(hosts.connect(0, 1), ("connected", 0, 1, None, 6))
        self.assertEqual(hosts.send(0, ("read", 3, 5), 6), ("no", 0, 1, 1, "lost", 1))
        self.assertEqual(hosts.subsystem.rows(), [])

    def test_a_connect_that_is_old(self):
        hosts = busy()
        hosts.connect(0, 4)
        before = all_of(hosts.subsystem)
        for number in (1, 2, 3):
            self.assertEqual(hosts.subsystem.carry_out(("connect", 0, number)), ("no", 0, number, 0, "old", 0))
        self.assertEqual(all_of(hosts.subsystem), before)

    def test_commands_that_are_not_next(self):
        hosts = busy()
        hosts.subsystem.run = 6
        cases = (((0, 1, 4), "old"), ((0, 1, 1), "old"), ((0, 1, 7), "early"), ((0, 2, 1), "early"),
                 ((0, 2, 6), "early"), ((1, 1, 1), "lost"), ((3, 9, 9), "lost"))
        before = all_of(hosts.subsystem)
        for name, word in cases:
            for command in COMMANDS.values():
                self.assertEqual(hosts.subsystem.carry_out(("do", *name, None, command)), ("no", *name, word, 6))
        self.assertEqual(all_of(hosts.subsystem), before)

    def test_a_command_that_is_again_gets_its_answer_and_its_order(self):
        hosts = busy()
        hosts.do(1, ("make", 4, 4))
        letters = [hosts.letter(0, command, 6) for command in (("snap", 3),)]
        answer = hosts.send(0, ("snap", 3), 6)
        self.assertEqual(answer, ("answer", 0, 1, 6, ("ok", 9), 9))
        for place in range(4):
            hosts.do(1, ("write", 4, place, 1))
        before = all_of(hosts.subsystem)
        for _ in range(5):
            self.assertEqual(hosts.subsystem.carry_out(letters[0]), answer)
        # What else such a letter says plays no part: its name is what counts.
        self.assertEqual(hosts.subsystem.carry_out(("do", 0, 1, 6, None, ("flush",))), answer)
        self.assertEqual(all_of(hosts.subsystem), before)

    def test_a_refused_command_that_is_again(self):
        hosts = busy()
        letter = hosts.letter(0, ("make", 3, 5))
        self.assertEqual(hosts.send(0, ("make", 3, 5)), ("answer", 0, 1, 6, ("exists", None), 6))
        hosts.do(0, ("remove", 3), 6)
        self.assertEqual(hosts.subsystem.carry_out(letter), ("no", 0, 1, 6, "old", 0))

    def test_returned_rows_are_not_changed_later(self):
        hosts = Hosts()
        hosts.connect(0)
        rows = hosts.subsystem.rows()
        copy = list(rows)
        hosts.do(0, ("make", 3, 4))
        self.assertEqual(rows, copy)
        rows.clear()
        self.assertEqual(len(hosts.subsystem.rows()), 2)


def due(state, host, key, command, order=90):
    return answer_due(state, host, key, command, order)


def state_of(*rows):
    """The state behind these records, from the order 1 on: each row is a host, a kind and its fields."""
    return fold([make_record(order, row[1], row[0], 1, order, row[2:]) for order, row in enumerate(rows, 1)])


# The namespace 3 with the places 0 to 9; the place 5 had another value in the snapshot 3.
SPACE = [(0, "make", 3, 10), (0, "write", 3, 5, 50), (0, "snap", 3), (0, "write", 3, 5, 51)]
PLAIN_STATE = state_of(*SPACE)
# Hosts 0 and 1 are registered with the keys 5 and 6, and host 1 holds the namespace.
REGISTERED = [*SPACE, (0, "register", 3), (1, "register", 3)]
HELD = state_of(*REGISTERED, (1, "reserve", 3, "write"))
HELD_ALONE = state_of(*REGISTERED, (1, "reserve", 3, "alone"))
FREE = state_of(*REGISTERED)


class DueTest(unittest.TestCase):
    """Points [50] to [52] by function `answer_due`."""

    def test_each_command(self):
        cases = [
            (("make", 4, 10), OK, (4, 10)),
            (("write", 3, 9, 7), OK, (3, 9, 7)),
            (("trim", 3, 5), OK, (3, 5)),
            (("trim", 3, 6), OK, None),
            (("read", 3, 5), ("ok", 51), None),
            (("read", 3, 6), OK, None),
            (("snap", 3), ("ok", 90), (3,)),
            (("view", 3, 3, 5), ("ok", 50), None),
            (("view", 3, 3, 6), OK, None),
            (("drop", 3, 3), OK, (3, 3)),
            (("register", 3), ("ok", 90), (3,)),
            (("flush",), OK, None),
        ]
        for command, answer, fields in cases:
            self.assertEqual(due(PLAIN_STATE, 0, None, command), (answer, fields), command)

    def test_remove(self):
        state = state_of(*SPACE, (0, "drop", 3, 3))
        self.assertEqual(due(state, 2, None, ("remove", 3)), (OK, (3,)))

    def test_a_value_of_0_is_a_value(self):
        state = state_of((0, "make", 3, 10), (0, "write", 3, 5, 0))
        self.assertEqual(due(state, 0, None, ("trim", 3, 5)), (OK, (3, 5)))
        self.assertEqual(due(state, 0, None, ("read", 3, 5)), (("ok", 0), None))

    def test_commands_of_registered_hosts(self):
        cases = [
            (FREE, 0, 5, ("register", 3), ("ok", 5), None),
            (FREE, 0, None, ("register", 3), ("ok", 5), None),
            (HELD, 1, None, ("register", 3), ("ok", 6), None),
            (FREE, 2, None, ("register", 3), ("ok", 90), (3,)),
            (FREE, 0, 5, ("leave", 3), OK, (3, False)),
            (HELD, 0, 5, ("leave", 3), OK, (3, False)),
            (HELD, 1, 6, ("leave", 3), OK, (3, True)),
            (FREE, 0, 5, ("reserve", 3, "alone"), OK, (3, "alone")),
            (HELD, 1, 6, ("reserve", 3, "write"), OK, None),
            (HELD, 1, 6, ("release", 3), OK, (3,)),
            (FREE, 0, 5, ("preempt", 3, 1), OK, (3, 1, None)),
            (HELD, 0, 5, ("preempt", 3, 1), OK, (3, 1, "write")),
            (HELD_ALONE, 0, 5, ("preempt", 3, 1), OK, (3, 1, "alone")),
            (HELD, 1, 6, ("preempt", 3, 0), OK, (3, 0, None)),
            (HELD, 1, 6, ("write", 3, 5, 1), OK, (3, 5, 1)),
            (HELD, 0, 5, ("read", 3, 5), ("ok", 51), None),
            (HELD, 2, None, ("read", 3, 5), ("ok", 51), None),
            (HELD_ALONE, 1, 6, ("read", 3, 5), ("ok", 51), None),
        ]
        for state, host, key, command, answer, fields in cases:
            self.assertEqual(due(state, host, key, command), (answer, fields), (host, command))

    def test_each_refusal(self):
        cases = [
            (PLAIN_STATE, 0, None, ("make", 3, 10), "exists"),
            (PLAIN_STATE, 0, None, ("view", 3, 2, 5), "none"),
            (PLAIN_STATE, 0, None, ("view", 3, 99, 5), "none"),
            (PLAIN_STATE, 0, None, ("drop", 3, 4), "none"),
            (PLAIN_STATE, 0, None, ("write", 3, 10, 1), "place"),
            (PLAIN_STATE, 0, None, ("trim", 3, 10), "place"),
            (PLAIN_STATE, 0, None, ("read", 3, 63), "place"),
            (PLAIN_STATE, 0, None, ("view", 3, 3, 10), "place"),
            (PLAIN_STATE, 0, None, ("remove", 3), "held"),
            (PLAIN_STATE, 0, None, ("leave", 3), "conflict"),
            (PLAIN_STATE, 0, None, ("reserve", 3, "write"), "conflict"),
            (FREE, 0, None, ("write", 3, 5, 1), "conflict"),
            (FREE, 0, 6, ("write", 3, 5, 1), "conflict"),
            (FREE, 2, None, ("write", 3, 5, 1), "conflict"),
            (FREE, 0, 5, ("release", 3), "conflict"),
            (FREE, 0, 5, ("preempt", 3, 0), "conflict"),
            (FREE, 0, 5, ("preempt", 3, 2), "none"),
            (HELD, 0, 5, ("snap", 3), "conflict"),
            (HELD, 1, 6, ("reserve", 3, "alone"), "conflict"),
            (HELD_ALONE, 0, 5, ("view", 3, 3, 5), "conflict"),
            (HELD_ALONE, 2, None, ("read", 3, 5), "conflict"),
        ]
        for state, host, key, command, word in cases:
            self.assertEqual(due(state, host, key, command), ((word, None), None), (host, command))
        for word, command in COMMANDS.items():
            if word not in ("make", "flush"):
                self.assertEqual(due(PLAIN_STATE, 0, None, (word, 4, *command[2:])), (NONE, None), word)

    def test_the_order_of_the_refusals(self):
        cases = [
            # No such namespace comes ahead of the fence, which refuses the key of a host that has none.
            (PLAIN_STATE, 0, 7, ("write", 4, 5, 1), "none"),
            # The fence comes ahead of the snapshot, the place, and what is held.
            (FREE, 0, None, ("view", 3, 99, 5), "conflict"),
            (FREE, 0, None, ("drop", 3, 99), "conflict"),
            (FREE, 0, 6, ("write", 3, 10, 1), "conflict"),
            (FREE, 0, None, ("remove", 3), "conflict"),
            (FREE, 0, 5, ("remove", 3), "held"),
            (HELD, 0, 5, ("remove", 3), "conflict"),
            # The snapshot comes ahead of the place.
            (PLAIN_STATE, 0, None, ("view", 3, 99, 10), "none"),
            # The place comes ahead of there being nothing to trim.
            (PLAIN_STATE, 0, None, ("trim", 3, 10), "place"),
            # Refusals come ahead of what changes nothing.
            (FREE, 0, 6, ("register", 3), "conflict"),
            (HELD, 1, 5, ("reserve", 3, "write"), "conflict"),
        ]
        for state, host, key, command, word in cases:
            self.assertEqual(due(state, host, key, command), ((word, None), None), (host, command))

    def test_make_and_flush_have_no_fence(self):
        self.assertEqual(due(FREE, 0, 5, ("make", 3, 4)), (("exists", None), None))
        self.assertEqual(due(FREE, 0, 5, ("make", 4, 4)), (OK, (4, 4)))
        self.assertEqual(due(FREE, 0, 5, ("flush",)), (OK, None))

    def test_a_snapshot_of_another_namespace(self):
        state = state_of(*SPACE, (0, "make", 4, 10))
        self.assertEqual(due(state, 0, None, ("view", 4, 3, 5)), (NONE, None))
        self.assertEqual(due(state, 0, None, ("drop", 4, 3)), (NONE, None))
        self.assertEqual(due(state, 0, None, ("remove", 4)), (OK, (4,)))

    def test_the_state_stays(self):
        state = state_of(*SPACE)
        copy = fold([make_record(order, row[1], row[0], 1, order, row[2:]) for order, row in enumerate(SPACE, 1)])
        for command in COMMANDS.values():
            for key in (None, 5):
                due(state, 0, key, command)
        self.assertEqual(state, copy)


class CarryOutTest(unittest.TestCase):
    """Points [51] to [53] by letters."""

    def test_what_a_command_adds(self):
        hosts = busy()
        cases = [(("read", 3, 5), None), (("view", 3, 4, 5), None), (("flush",), None), (("trim", 3, 7), None),
                 (("register", 3), None), (("make", 3, 3), None), (("write", 3, 9, 1), (3, 9, 1)),
                 (("trim", 3, 9), (3, 9)), (("reserve", 3, "alone"), (3, "alone")), (("reserve", 3, "alone"), None),
                 (("drop", 3, 4), (3, 4)), (("leave", 3), (3, True)), (("remove", 3), (3,)), (("make", 3, 3), (3, 3))]
        for counter, (command, fields) in enumerate(cases, 6):
            order, key = hosts.store.state["order"], None
            if command[0] not in ("make", "register", "flush"):
                key = dict(hosts.store.state["spaces"][3][2][0]).get(0)
            answering = hosts.send(0, command, key)
            if fields is not None:
                order += 1
                self.assertEqual(hosts.store.records()[-1], (order, command[0], 0, 1, counter, *fields))
            self.assertEqual((hosts.store.state["order"], answering[5]), (order, order), command)

    def test_rows(self):
        hosts = Hosts()
        hosts.connect(2, 5)
        hosts.do(2, ("make", 3, 10))
        hosts.do(2, ("read", 3, 10), 7)
        hosts.connect(0, 1)
        hosts.do(2, ("register", 3))
        hosts.do(2, ("write", 3, 5, 1), 4)
        hosts.subsystem.carry_out(("do", 2, 5, 4, 4, ("write", 3, 5, 1)))
        hosts.subsystem.carry_out(("do", 2, 5, 1, 4, ("write", 3, 5, 1)))
        hosts.subsystem.carry_out(("connect", 2, 5))
        hosts.subsystem.carry_out(("connect", 2, 4))
        hosts.connect(2, 6)
        self.assertEqual(hosts.subsystem.rows(), [
            (1, 2, 5, 0, None, ("connect",), OK),
            (2, 2, 5, 1, None, ("make", 3, 10), OK),
            (2, 2, 5, 2, 7, ("read", 3, 10), CONFLICT),
            (3, 0, 1, 0, None, ("connect",), OK),
            (4, 2, 5, 3, None, ("register", 3), ("ok", 4)),
            (5, 2, 5, 4, 4, ("write", 3, 5, 1), OK),
            (6, 2, 6, 0, None, ("connect",), ("ok", (5, 4, OK))),
        ])

    def test_what_is_flushed_before_which_answer(self):
        keyed = {"leave": 6, "reserve": 6, "release": 6, "preempt": 6}
        for word, command in COMMANDS.items():
            hosts = busy()
            if word == "preempt":
                hosts.do(1, ("register", 3))
            if word == "release":
                hosts.do(0, ("reserve", 3, "write"), 6)
            hosts.do(2, ("make", 5, 4))
            top = hosts.store.state["order"]
            self.assertEqual(hosts.waiting(), [top])
            # A refused command flushes nothing, an answered one those of FLUSHED.
            refused = hosts.send(2, command, 99)
            self.assertEqual(hosts.waiting(), [] if word == "flush" else [top], word)
            self.assertEqual(refused[4][0] == "ok", word == "flush")
            hosts.do(2, ("write", 5, 1, 1))
            if word == "make":
                command = ("make", 6, 4)
            answer = hosts.do(0, command, keyed.get(word, None if word in ("make", "register", "flush") else 6))
            self.assertEqual(answer[0], "held" if word == "remove" else "ok", word)
            self.assertEqual(hosts.waiting() == [], word in FLUSHED, (word, hosts.waiting()))
            if word in FLUSHED:
                self.assertEqual(hosts.store.lasting_order(), hosts.store.state["order"])

    def test_what_changes_nothing_is_flushed_too(self):
        for command in (("register", 3), ("reserve", 3, "write")):
            hosts = busy()
            hosts.do(0, ("reserve", 3, "write"), 6)
            hosts.do(2, ("make", 5, 4))
            self.assertEqual(hosts.waiting(), [9])
            self.assertEqual(hosts.do(0, command, 6)[0], "ok")
            self.assertEqual((hosts.waiting(), hosts.store.state["order"]), ([], 9))

    def test_a_connect_flushes(self):
        hosts = busy()
        hosts.do(0, ("write", 3, 1, 1), 6)
        self.assertEqual(hosts.waiting(), [7])
        hosts.connect(1)
        self.assertEqual((hosts.waiting(), hosts.store.lasting_order()), ([], 8))

    def test_room(self):
        hosts = Hosts()
        hosts.do(0, ("make", 3, 64))
        for place in range(21):
            self.assertEqual(hosts.do(0, ("write", 3, place, 1)), OK)
        self.assertEqual(hosts.store.need(), 22)
        hosts.do(0, ("make", 4, 64))
        order = hosts.store.state["order"]
        for command in (("write", 3, 30, 1), ("make", 5, 1), ("snap", 3), ("register", 4)):
            self.assertEqual(hosts.do(0, command), ("room", None), command)
        self.assertEqual((hosts.store.state["order"], hosts.subsystem.rows()[-1][0]), (order, order))
        # A write of what has a value needs no more; nor does what adds no record.
        self.assertEqual(hosts.do(0, ("write", 3, 0, 2)), OK)
        for command, word in ((("make", 3, 1), "exists"), (("write", 3, 64 - 1, 1), "room"), (("read", 3, 0), "ok"),
                              (("snap", 5), "none"), (("trim", 3, 40), "ok"), (("trim", 3, 0), "ok")):
            self.assertEqual(hosts.do(0, command)[0], word, command)
        self.assertEqual(hosts.do(0, ("remove", 4)), OK)
        self.assertEqual(hosts.do(0, ("write", 3, 30, 1)), OK)

    def test_room_comes_last(self):
        hosts = Hosts()
        hosts.do(0, ("make", 3, 40))
        for place in range(22):
            hosts.do(0, ("write", 3, place, 1))
        self.assertEqual(hosts.do(0, ("write", 3, 40, 1)), ("place", None))
        self.assertEqual(hosts.do(0, ("write", 3, 39, 1)), ("room", None))
        self.assertEqual(hosts.do(0, ("write", 3, 39, 1), 5), CONFLICT)
        self.assertEqual(hosts.do(0, ("reserve", 3, "write")), CONFLICT)
        self.assertEqual(hosts.do(0, ("register", 4)), NONE)

    def test_a_reserve_that_does_not_fit(self):
        hosts = Hosts()
        hosts.do(0, ("make", 3, 40))
        key = hosts.do(0, ("register", 3))[1]
        for place in range(21):
            hosts.do(0, ("write", 3, place, 1), key)
        self.assertEqual(hosts.store.need(), 23)
        self.assertEqual(hosts.do(0, ("reserve", 3, "write"), key), ("room", None))
        self.assertEqual(hosts.do(0, ("register", 3)), ("ok", key))
        hosts.do(0, ("trim", 3, 0), key)
        hosts.do(0, ("trim", 3, 1), key)
        self.assertEqual(hosts.do(0, ("reserve", 3, "write"), key), OK)

    def test_seven_kinds_are_never_refused_for_lack_of_room(self):
        hosts = Hosts()
        hosts.do(0, ("make", 4, 4))
        hosts.do(0, ("make", 3, 40))
        snapshot = hosts.do(0, ("snap", 4))[1]
        keys = [hosts.do(host, ("register", 3))[1] for host in (0, 1)]
        hosts.do(0, ("reserve", 3, "write"), keys[0])
        place = 0
        while hosts.do(0, ("write", 3, place, 1), keys[0]) == OK:
            place += 1
        for command, key in ((("trim", 3, 0), keys[0]), (("drop", 4, snapshot), None), (("remove", 4), None),
                             (("release", 3), keys[0]), (("preempt", 3, 1), keys[0]), (("leave", 3), keys[0])):
            self.assertEqual(hosts.do(0, command, key), OK)
        for host in range(4):
            self.assertEqual(hosts.connect(host)[0], "connected")

    def test_a_host_that_was_cast_out(self):
        hosts = busy()
        for host, key in ((0, 6), (1, hosts.do(1, ("register", 3))[1])):
            self.assertEqual(hosts.do(host, ("write", 3, 1, host), key), OK)
        key = dict(hosts.store.state["spaces"][3][2][0])[1]
        late = hosts.letter(0, ("write", 3, 1, 77), 6)
        self.assertEqual(hosts.do(1, ("preempt", 3, 0), key), OK)
        self.assertEqual(hosts.subsystem.carry_out(late)[4], CONFLICT)
        hosts.counters[0] += 1
        for command in COMMANDS.values():
            if command[0] not in ("make", "register", "flush"):
                self.assertEqual(hosts.do(0, command, 6), CONFLICT)
        # Registered anew it has another key, and what it sends with the one before is refused still.
        self.assertGreater(hosts.do(0, ("register", 3))[1], 6)
        self.assertEqual(hosts.do(0, ("write", 3, 1, 77), 6), CONFLICT)
        self.assertEqual(hosts.do(1, ("read", 3, 1), key), ("ok", 1))
        # The late letter comes once more.
        self.assertEqual(hosts.subsystem.carry_out(late)[4], "old")

    def test_a_host_that_is_cast_out_with_its_reservation(self):
        hosts = busy()
        key = hosts.do(1, ("register", 3))[1]
        hosts.do(0, ("reserve", 3, "alone"), 6)
        self.assertEqual(hosts.do(1, ("read", 3, 5), key), CONFLICT)
        self.assertEqual(hosts.do(1, ("preempt", 3, 0), key), OK)
        self.assertEqual(hosts.store.state["spaces"][3][2], (((1, key),), (1, "alone")))
        self.assertEqual(hosts.do(1, ("read", 3, 5), key), ("ok", 50))
        self.assertEqual(hosts.do(0, ("release", 3), 6), CONFLICT)


class ModelTest(unittest.TestCase):
    """Points [36] to [53]: long lists of letters are answered as a plain subsystem answers them."""

    def letter(self, counting, hosts, plain):
        """A letter of a host: mostly its next one, with its key, but also others."""
        host = counting.below(4)
        mark = plain.known.get(host, (0, 0))
        if host not in plain.open_hosts or counting.happens(4):
            return ("connect", host, max(1, mark[0] + 1 - counting.below(3) * counting.below(2)))
        command = a_command(counting, hosts.store.state)
        space = plain.spaces.get(namespace_of(command))
        key = space.keys.get(host) if space and command[0] not in ("make", "register", "flush") else None
        if counting.happens(7):
            key = 1 + counting.below(60) if counting.happens(70) else None
        if counting.happens(7):
            return ("do", host, max(1, mark[0] + 1 - counting.below(3)), 1 + counting.below(mark[1] + 3), key, command)
        return ("do", host, mark[0], mark[1] + 1, key, command)

    def answered(self, hosts, plain, letter):
        """Have both answer a letter; returns the words of the command and the answer."""
        if letter[0] == "connect":
            self.assertEqual(hosts.subsystem.carry_out(letter), plain.connect(*letter[1:]), letter)
            return ("connect", "")
        _, host, session, counter, key, command = letter
        _, fields = answer_due(hosts.store.state, host, key, command, hosts.store.next_order())
        has_room = fields is None or hosts.store.fits(command[0], host, session, counter, fields)
        expected = plain.do(host, session, counter, key, command, has_room)
        self.assertEqual(hosts.subsystem.carry_out(letter), expected, letter)
        return (command[0], expected[4] if expected[0] == "no" else expected[4][0])

    def test_long_lists_of_letters(self):
        seen = set()
        for start in range(10):
            counting, plain = Counting(start), Plain()
            hosts = Hosts(Store(Flash(8 + start % 3)))
            for _ in range(300):
                letter = self.letter(counting, hosts, plain)
                for _ in range(1 + counting.happens(10)):
                    seen.add(self.answered(hosts, plain, letter))
                self.assertEqual(hosts.store.state, plain.state())
                self.assertEqual(len(hosts.store.waiting), plain.waiting)
                self.assertLessEqual(hosts.store.need(), hosts.store.limit())
            self.assertEqual([(0, *row) for row in hosts.subsystem.rows()], plain.rows)
        for word in COMMANDS:
            self.assertIn((word, "ok"), seen)
        for word in ("exists", "none", "conflict", "held", "room", "old", "early"):
            self.assertIn(word, {answer for _, answer in seen}, word)

    def test_runs_that_end_anywhere(self):
        for start in range(6):
            counting, plain = Counting(50 + start), Plain()
            hosts = Hosts(Store(Flash(8)))
            for _ in range(40):
                for _ in range(counting.below(20)):
                    self.answered(hosts, plain, self.letter(counting, hosts, plain))
                lasting = plain.order - plain.waiting
                hosts.store.flash.cut(counting.below(3))
                plain.go_on(lasting)
                hosts = Hosts(Store(hosts.store.flash), plain.run)
                self.assertEqual(hosts.store.state, plain.state())


class PowerTest(unittest.TestCase):
    """Point [53], and [32] for what rests on it: the power fails in each operation of a letter."""

    def each_failure(self, image, letters, last):
        """Carry out letters and then the last one, in each operation of which the power fails, with each choice.

        Checks rows, marks and what is found when the flash is opened again; returns the number of the operations.
        """
        count = 0
        while True:
            for choice in (0, 1, 2):
                subsystem = Subsystem(Store(flash_from(image)), 0)
                states = {subsystem.store.state["order"]: subsystem.store.state}
                for letter in letters:
                    subsystem.carry_out(letter)
                    states[subsystem.store.state["order"]] = subsystem.store.state
                before = all_of(subsystem)
                subsystem.store.flash.fail_after(count)
                try:
                    subsystem.carry_out(last)
                    return count
                except PowerOff:
                    pass
                states[subsystem.store.state["order"]] = subsystem.store.state
                self.check_rows(subsystem, before, last)
                subsystem.store.flash.cut(choice)
                self.check_opened(subsystem, states, before, last)
            count += 1

    def check_rows(self, subsystem, before, last):
        """Either nothing was carried out, or the row and the mark are there."""
        rows, mark = subsystem.rows(), subsystem.sessions.mark_of(last[1])
        if subsystem.store.state["order"] == before[0]["order"] and last[0] == "connect":
            self.assertEqual((rows, mark), (before[3], before[4][last[1]]))
            self.assertEqual(subsystem.sessions.is_open(last[1]), before[5][last[1]])
            return
        if rows == before[3]:
            self.assertEqual((subsystem.store.state, mark), (before[0], before[4][last[1]]))
            return
        counter = 0 if last[0] == "connect" else last[3]
        self.assertEqual((rows[:-1], rows[-1][1:4]), (before[3], (last[1], last[2], counter)))
        self.assertEqual(rows[-1][0], subsystem.store.state["order"])
        self.assertEqual(mark[:2], (last[2], counter))
        self.assertEqual(mark[2], None if last[0] == "connect" else rows[-1][6])

    def check_opened(self, subsystem, states, before, last):
        opened = Subsystem(Store(subsystem.store.flash), 1)
        order = opened.store.state["order"]
        self.assertEqual(opened.store.state, states[order])
        self.assertGreaterEqual(order, before[0]["order"] - len(before[1]))
        # The host learns what has become of its command, and goes on.
        host = last[1]
        mark = states[order]["marks"].get(host)
        number = 1 if mark is None else mark[0]
        told = None if mark is None else mark[3] if mark[1] == 0 else mark[:3]
        expected = ("connected", host, number + 1, told, order + 1)
        self.assertEqual(opened.carry_out(("connect", host, number + 1)), expected)
        self.assertEqual(opened.carry_out(("do", host, number + 1, 1, None, ("flush",)))[4], OK)
        self.assertEqual(Store(opened.store.flash).state, opened.store.state)

    def test_a_letter_that_flushes(self):
        image = busy().store.flash.image()
        begin = [("connect", 0, 2), ("connect", 1, 1), ("do", 1, 1, 1, None, ("make", 4, 4)),
                 ("do", 0, 2, 1, 6, ("write", 3, 1, 1))]
        lasts = [("do", 0, 2, 2, None, ("flush",)), ("do", 0, 2, 2, 6, ("reserve", 3, "write")),
                 ("do", 0, 2, 2, 6, ("leave", 3)), ("do", 0, 2, 2, None, ("register", 3)),
                 ("do", 1, 1, 2, None, ("register", 3)), ("connect", 2, 4), ("connect", 0, 3)]
        expected = [2, 3, 3, 2, 3, 3, 3]
        self.assertEqual([self.each_failure(image, begin, last) for last in lasts], expected)

    def test_a_letter_that_flushes_nothing(self):
        image = busy().store.flash.image()
        begin = [("connect", 0, 2), ("do", 0, 2, 1, 6, ("write", 3, 1, 1))]
        for last in (("do", 0, 2, 2, 6, ("write", 3, 1, 2)), ("do", 0, 2, 2, 6, ("read", 3, 1)), ("connect", 0, 2),
                     ("do", 0, 2, 2, 5, ("leave", 3)), ("do", 0, 2, 1, None, ("flush",)), ("connect", 0, 1),
                     ("do", 0, 2, 3, None, ("flush",))):
            self.assertEqual(self.each_failure(image, begin, last), 0)

    def test_a_ninth_record(self):
        image = busy().store.flash.image()
        begin = [("connect", 0, 2), *[("do", 0, 2, 1 + at, 6, ("write", 3, at, at)) for at in range(8)]]
        for command, operations in ((("write", 3, 9, 9), 8), (("trim", 3, 0), 8), (("leave", 3), 9), (("flush",), 8),
                                    (("read", 3, 1), 0)):
            self.assertEqual(self.each_failure(image, begin, ("do", 0, 2, 9, 6, command)), operations)
        self.assertEqual(self.each_failure(image, begin, ("connect", 0, 3)), 9)
        self.assertEqual(self.each_failure(image, begin, ("connect", 1, 3)), 9)

    def test_a_ninth_record_that_was_not_carried_out(self):
        for last in (("do", 0, 2, 9, 6, ("leave", 3)), ("connect", 0, 3), ("connect", 1, 1)):
            subsystem = Subsystem(Store(flash_from(busy().store.flash.image())), 0)
            subsystem.carry_out(("connect", 0, 2))
            for at in range(8):
                subsystem.carry_out(("do", 0, 2, 1 + at, 6, ("write", 3, at, at)))
            before = all_of(subsystem)
            subsystem.store.flash.fail_after(7)
            expect_power_off(subsystem.carry_out, last)
            after = all_of(subsystem)
            self.assertEqual((after[0], after[3:]), (before[0], before[3:]))

    def test_a_ninth_record_that_was_carried_out(self):
        for last, row in ((("do", 0, 2, 9, 6, ("leave", 3)), (16, 0, 2, 9, 6, ("leave", 3), OK)),
                          (("connect", 0, 3), (16, 0, 3, 0, None, ("connect",), ("ok", (2, 8, OK)))),
                          (("connect", 1, 1), (16, 1, 1, 0, None, ("connect",), OK))):
            subsystem = Subsystem(Store(flash_from(busy().store.flash.image())), 0)
            subsystem.carry_out(("connect", 0, 2))
            for at in range(8):
                subsystem.carry_out(("do", 0, 2, 1 + at, 6, ("write", 3, at, at)))
            subsystem.store.flash.fail_after(8)
            expect_power_off(subsystem.carry_out, last)
            self.assertEqual(subsystem.rows()[-1], row)
            self.assertEqual(subsystem.sessions.mark_of(last[1])[:2], row[2:4])

    def test_a_flush_that_collects(self):
        hosts = Hosts()
        hosts.do(0, ("make", 3, 64))
        for at in range(100):
            hosts.do(0, ("write", 3, at % 4 if at % 8 else 20 + at // 8, at))
        hosts.do(0, ("flush",))
        while hosts.store.log.room(False) > 1:
            hosts.do(0, ("write", 3, 1, hosts.store.log.room(False)))
            hosts.do(0, ("flush",))
        image = hosts.store.flash.image()
        begin = [("connect", 0, 9), *[("do", 0, 9, 1 + at, None, ("write", 3, at, at)) for at in range(6)]]
        # Connecting uses up the last page, so the flush has to collect.
        for last in (("do", 0, 9, 7, None, ("flush",)), ("do", 0, 9, 7, None, ("register", 3)), ("connect", 1, 1)):
            self.assertGreaterEqual(self.each_failure(image, begin, last), 9)


if __name__ == "__main__":
    unittest.main()
