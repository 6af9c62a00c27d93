"""Points [36] to [41]: fences, what they refuse, what changes nothing, and the fence after a change."""

import unittest
from itertools import combinations

from histories import History

from spindlegate.fences import (
    NO_FENCE,
    changes_nothing,
    holder_way,
    key_of,
    refusal,
    with_holder,
    with_key,
    without_key,
)
from spindlegate.state import fold

# The fence of the example of the interface of fences.py.
FENCE = (((0, 4), (1, 7)), (0, "write"))
ALONE = (((0, 4), (1, 7)), (0, "alone"))
NOTHING_RESERVED = (((0, 4), (1, 7)), None)

# The commands of point [50] other than make and flush.
COMMANDS = {
    "remove": ("remove", 3),
    "write": ("write", 3, 5, 50),
    "trim": ("trim", 3, 5),
    "read": ("read", 3, 5),
    "snap": ("snap", 3),
    "view": ("view", 3, 9, 5),
    "drop": ("drop", 3, 9),
    "register": ("register", 3),
    "leave": ("leave", 3),
    "reserve": ("reserve", 3, "write"),
    "release": ("release", 3),
    "preempt": ("preempt", 3, 1),
}
CHANGING = ("write", "trim", "snap", "drop", "remove")
READING = ("read", "view")
OF_REGISTERED = ("leave", "reserve", "release", "preempt")


def all_fences():
    """The fences of the hosts 0 to 2, the key of a host being 10 and its number."""
    for count in range(4):
        for hosts in combinations((0, 1, 2), count):
            registrations = tuple((host, 10 + host) for host in hosts)
            for reservation in [None, *[(host, way) for host in hosts for way in ("write", "alone")]]:
                yield (registrations, reservation)


def all_commands():
    for word in (*CHANGING, *READING, "register", "leave", "release"):
        yield COMMANDS[word]
    for way in ("write", "alone"):
        yield ("reserve", 3, way)
    for victim in range(4):
        yield ("preempt", 3, victim)


def reasons(fence, host, key, command):
    """All the refusals of points [37] to [39], in their order, each as its own sentence says."""
    keys = dict(fence[0])
    holder, way = fence[1] or (None, None)
    word = command[0]
    found = []
    if key is not None and keys.get(host) != key:
        found.append("conflict")
    if key is None and word != "register" and host in keys:
        found.append("conflict")
    if key is None and word != "register" and keys and word not in READING:
        found.append("conflict")
    if word in CHANGING and holder is not None and holder != host:
        found.append("conflict")
    if word in READING and way == "alone" and holder != host:
        found.append("conflict")
    if word in OF_REGISTERED and host not in keys:
        found.append("conflict")
    if word == "reserve" and holder is not None and (holder, way) != (host, command[2]):
        found.append("conflict")
    if word == "release" and holder != host:
        found.append("conflict")
    if word == "preempt" and command[2] == host:
        found.append("conflict")
    if word == "preempt" and command[2] not in keys:
        found.append("none")
    return found


class ReadingTest(unittest.TestCase):
    def test_the_fence_of_a_new_namespace(self):
        self.assertEqual(NO_FENCE, ((), None))
        for host in range(4):
            self.assertIsNone(key_of(NO_FENCE, host))
            self.assertIsNone(holder_way(NO_FENCE, host))

    def test_keys(self):
        self.assertEqual([key_of(FENCE, host) for host in range(4)], [4, 7, None, None])
        self.assertEqual([key_of((((3, 9),), None), host) for host in range(4)], [None, None, None, 9])

    def test_the_holder(self):
        self.assertEqual([holder_way(FENCE, host) for host in range(4)], ["write", None, None, None])
        self.assertEqual([holder_way(ALONE, host) for host in range(4)], ["alone", None, None, None])
        self.assertEqual([holder_way(NOTHING_RESERVED, host) for host in range(4)], [None] * 4)


class KeyRefusalTest(unittest.TestCase):
    """Point [37]."""

    def test_the_example_of_the_document(self):
        self.assertEqual(refusal(FENCE, 1, 7, ("write", 3, 5, 50)), "conflict")
        self.assertEqual(refusal(FENCE, 1, 7, ("preempt", 3, 0)), "")

    def test_a_key_that_is_not_the_present_one(self):
        for command in COMMANDS.values():
            for fence, host, key in (
                (FENCE, 0, 3), (FENCE, 0, 5), (FENCE, 0, 7), (FENCE, 2, 4), (FENCE, 2, 9), (NO_FENCE, 0, 1),
                (NOTHING_RESERVED, 1, 4),
            ):
                self.assertEqual(refusal(fence, host, key, command), "conflict", command)

    def test_the_holder_with_its_key(self):
        for word, command in COMMANDS.items():
            self.assertEqual(refusal(FENCE, 0, 4, command), "", word)

    def test_a_register_without_a_key(self):
        for fence in (NO_FENCE, FENCE, ALONE, NOTHING_RESERVED):
            for host in range(4):
                self.assertEqual(refusal(fence, host, None, ("register", 3)), "")

    def test_a_register_with_a_key(self):
        self.assertEqual(refusal(FENCE, 1, 7, ("register", 3)), "")
        self.assertEqual(refusal(FENCE, 1, 8, ("register", 3)), "conflict")
        self.assertEqual(refusal(FENCE, 2, 8, ("register", 3)), "conflict")

    def test_a_registered_host_without_a_key(self):
        for word, command in COMMANDS.items():
            if word != "register":
                for fence in (FENCE, ALONE, NOTHING_RESERVED):
                    self.assertEqual(refusal(fence, 0, None, command), "conflict")
                    self.assertEqual(refusal(fence, 1, None, command), "conflict")

    def test_a_host_that_is_not_registered_where_others_are(self):
        for word in CHANGING:
            self.assertEqual(refusal(NOTHING_RESERVED, 2, None, COMMANDS[word]), "conflict")
        for word in READING:
            self.assertEqual(refusal(NOTHING_RESERVED, 2, None, COMMANDS[word]), "")
            self.assertEqual(refusal(FENCE, 2, None, COMMANDS[word]), "")

    def test_where_nobody_is_registered(self):
        for word in (*CHANGING, *READING, "register"):
            self.assertEqual(refusal(NO_FENCE, 2, None, COMMANDS[word]), "")
        for word in OF_REGISTERED:
            self.assertEqual(refusal(NO_FENCE, 2, None, COMMANDS[word]), "conflict")


class ReservationRefusalTest(unittest.TestCase):
    """Point [38]."""

    def test_changes_of_a_host_that_is_not_the_holder(self):
        for word in CHANGING:
            self.assertEqual(refusal(NOTHING_RESERVED, 1, 7, COMMANDS[word]), "")
            self.assertEqual(refusal(FENCE, 1, 7, COMMANDS[word]), "conflict")
            self.assertEqual(refusal(ALONE, 1, 7, COMMANDS[word]), "conflict")
            self.assertEqual(refusal(ALONE, 0, 4, COMMANDS[word]), "")

    def test_reads_of_a_host_that_is_not_the_holder(self):
        for word in READING:
            self.assertEqual(refusal(FENCE, 1, 7, COMMANDS[word]), "")
            self.assertEqual(refusal(ALONE, 1, 7, COMMANDS[word]), "conflict")
            self.assertEqual(refusal(ALONE, 2, None, COMMANDS[word]), "conflict")
            self.assertEqual(refusal(ALONE, 0, 4, COMMANDS[word]), "")

    def test_a_reservation_does_not_refuse_the_other_commands(self):
        for word in ("register", "leave"):
            self.assertEqual(refusal(ALONE, 1, 7, COMMANDS[word]), "")
        self.assertEqual(refusal(ALONE, 1, 7, ("preempt", 3, 0)), "")


class RegisteredRefusalTest(unittest.TestCase):
    """Point [39]."""

    def test_a_reserve(self):
        for way, other in (("write", "alone"), ("alone", "write")):
            held = with_holder(FENCE, (0, way))
            self.assertEqual(refusal(NOTHING_RESERVED, 1, 7, ("reserve", 3, way)), "")
            self.assertEqual(refusal(held, 0, 4, ("reserve", 3, way)), "")
            self.assertEqual(refusal(held, 0, 4, ("reserve", 3, other)), "conflict")
            self.assertEqual(refusal(held, 1, 7, ("reserve", 3, way)), "conflict")
            self.assertEqual(refusal(held, 1, 7, ("reserve", 3, other)), "conflict")

    def test_a_release(self):
        self.assertEqual(refusal(FENCE, 0, 4, ("release", 3)), "")
        self.assertEqual(refusal(FENCE, 1, 7, ("release", 3)), "conflict")
        self.assertEqual(refusal(NOTHING_RESERVED, 0, 4, ("release", 3)), "conflict")

    def test_a_preempt(self):
        for fence in (FENCE, ALONE, NOTHING_RESERVED):
            self.assertEqual(refusal(fence, 1, 7, ("preempt", 3, 0)), "")
            self.assertEqual(refusal(fence, 0, 4, ("preempt", 3, 1)), "")
            self.assertEqual(refusal(fence, 1, 7, ("preempt", 3, 1)), "conflict")
            self.assertEqual(refusal(fence, 1, 7, ("preempt", 3, 2)), "none")
            self.assertEqual(refusal(fence, 1, 7, ("preempt", 3, 3)), "none")

    def test_conflict_comes_ahead_of_none(self):
        for host, key, victim in ((0, 5, 3), (0, None, 3), (2, None, 3), (2, 9, 3), (2, None, 2), (2, 9, 2)):
            self.assertEqual(refusal(NOTHING_RESERVED, host, key, ("preempt", 3, victim)), "conflict")
        self.assertEqual(refusal(NO_FENCE, 2, None, ("preempt", 3, 3)), "conflict")

    def test_every_fence_with_every_command(self):
        words = set()
        for fence in all_fences():
            for command in all_commands():
                for host in range(4):
                    for key in (None, 9, 10, 11, 12):
                        due = [*reasons(fence, host, key, command), ""][0]
                        self.assertEqual(refusal(fence, host, key, command), due, (fence, host, key, command))
                        words.add(due)
        self.assertEqual(words, {"", "conflict", "none"})

    def test_what_changes_nothing(self):
        for fence in all_fences():
            keys = dict(fence[0])
            for host in range(4):
                self.assertIs(changes_nothing(fence, host, ("register", 3)), host in keys)
                for way in ("write", "alone"):
                    due = fence[1] == (host, way)
                    self.assertIs(changes_nothing(fence, host, ("reserve", 3, way)), due)
        for word, command in COMMANDS.items():
            if word not in ("register", "reserve"):
                self.assertIs(changes_nothing(FENCE, 0, command), False)


class ChangeTest(unittest.TestCase):
    """Points [36], [40] and [41]."""

    def test_registrations_are_in_ascending_order_of_the_hosts(self):
        fence = NO_FENCE
        for host, key in ((2, 5), (0, 6), (3, 7), (1, 8)):
            fence = with_key(fence, host, key)
        self.assertEqual(fence, (((0, 6), (1, 8), (2, 5), (3, 7)), None))
        self.assertIsInstance(fence[0], tuple)

    def test_each_host_is_registered_at_most_once(self):
        self.assertEqual(with_key(FENCE, 0, 9), (((0, 9), (1, 7)), (0, "write")))
        self.assertEqual(with_key(FENCE, 1, 7), FENCE)

    def test_without_a_key(self):
        self.assertEqual(without_key(FENCE, 1), (((0, 4),), (0, "write")))
        self.assertEqual(without_key(FENCE, 2), FENCE)
        self.assertEqual(without_key(NOTHING_RESERVED, 0), (((1, 7),), None))
        self.assertEqual(without_key(without_key(NOTHING_RESERVED, 0), 1), NO_FENCE)
        self.assertEqual(without_key(NO_FENCE, 0), NO_FENCE)

    def test_with_a_holder(self):
        self.assertEqual(with_holder(NOTHING_RESERVED, (1, "alone")), (((0, 4), (1, 7)), (1, "alone")))
        self.assertEqual(with_holder(FENCE, (1, "alone")), (((0, 4), (1, 7)), (1, "alone")))
        self.assertEqual(with_holder(FENCE, None), NOTHING_RESERVED)

    def test_the_fence_that_is_passed_stays(self):
        fence = (((0, 4), (1, 7)), (0, "write"))
        with_key(fence, 2, 9)
        without_key(fence, 0)
        with_holder(fence, None)
        refusal(fence, 1, 7, ("preempt", 3, 0))
        self.assertEqual(fence, FENCE)

    def fence_after(self, *rows):
        """The fence of the namespace 3 after records; each row is a host, a kind and the fields behind 3."""
        records = [(1, "make", 0, 1, 1, 3, 9)]
        for order, (host, kind, *fields) in enumerate(rows, 2):
            records.append((order, kind, host, 1, order, 3, *fields))
        return fold(records)["spaces"][3][2]

    def test_the_key_of_a_registration_is_the_order_of_its_record(self):
        self.assertEqual(self.fence_after((1, "register"), (0, "register")), (((0, 3), (1, 2)), None))
        self.assertEqual(self.fence_after((1, "register"), (1, "leave", False), (1, "register")), (((1, 4),), None))

    def test_who_holds_after_a_leave(self):
        begun = [(0, "register"), (1, "register"), (0, "reserve", "alone")]
        self.assertEqual(self.fence_after(*begun, (1, "leave", False)), (((0, 2),), (0, "alone")))
        self.assertEqual(self.fence_after(*begun, (0, "leave", True)), (((1, 3),), None))

    def test_who_holds_after_a_preempt(self):
        begun = [(0, "register"), (1, "register"), (2, "register"), (0, "reserve", "alone")]
        self.assertEqual(self.fence_after(*begun, (1, "preempt", 0, "alone")), (((1, 3), (2, 4)), (1, "alone")))
        self.assertEqual(self.fence_after(*begun, (1, "preempt", 2, None)), (((0, 2), (1, 3)), (0, "alone")))
        self.assertEqual(self.fence_after(*begun, (0, "preempt", 1, None)), (((0, 2), (2, 4)), (0, "alone")))
        self.assertEqual(self.fence_after(*begun[:3], (1, "preempt", 0, None)), (((1, 3), (2, 4)), None))

    def test_a_key_is_never_given_twice(self):
        given = {}
        for seed in range(10):
            history = History(seed, 2, 3)
            given.clear()
            for _ in range(80):
                history.take(history.propose())
                for namespace, (_, _, fence) in fold(history.records)["spaces"].items():
                    for host, key in fence[0]:
                        self.assertEqual(given.setdefault(key, (namespace, host)), (namespace, host))

    def test_nothing_is_carried_out_with_a_key_that_has_ended(self):
        for ending in ((1, "leave", False), (0, "preempt", 1, None)):
            fence = self.fence_after((0, "register"), (1, "register"), ending)
            again = self.fence_after((0, "register"), (1, "register"), ending, (1, "register"))
            for command in all_commands():
                self.assertEqual(refusal(fence, 1, 3, command), "conflict")
                self.assertEqual(refusal(again, 1, 3, command), "conflict")


if __name__ == "__main__":
    unittest.main()
