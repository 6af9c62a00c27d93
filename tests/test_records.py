"""Points [8] to [11]: the records, their bounds, answers and effects."""

import unittest
from unittest.mock import ANY

from samples import FIELDS, NO_INTEGERS, TOLD, counter_of, refuses

from spindlegate.records import (
    HOSTS,
    KINDS,
    NAMESPACES,
    PLACES,
    answer_of,
    each_once,
    effects,
    field_count,
    fields_of,
    is_record,
    make_record,
)

# The kinds in the order of the table of [8].
TABLE = (
    "mark", "make", "remove", "write", "trim", "snap",
    "drop", "register", "leave", "reserve", "release", "preempt",
)

BAD_NAMESPACES = (0, 9, -1, *NO_INTEGERS)
BAD_PLACES = (-1, 64, *NO_INTEGERS)
BAD_SIZES = (0, 65, *NO_INTEGERS)
BAD_VALUES = NO_INTEGERS
BAD_HOSTS = (-1, 4, *NO_INTEGERS)
BAD_WAYS = ("", "read", "Alone", 1, True, ("alone",), ["alone"], ANY)
BAD_TOLDS = (
    True, False, 0, "", [], (), ANY, (3, 2), (3, 2, None, None), [3, 2, None],
    (0, 2, None), (True, 2, None), (None, 2, None),
    (3, -1, None), (3, False, None), (3, None, None),
    (3, 2, ()), (3, 2, ("ok",)), (3, 2, ("ok", None, 1)), (3, 2, ["ok", None]), (3, 2, "ok"), (3, 2, 0), (3, 2, False),
)

# For each kind and field: values on the bounds, and values just outside of them or of another sort.
# The order of the records is 12, so a snapshot is at most 11.
EDGES = {
    ("mark", 0): ((None, TOLD, (1, 0, None), (1, 0, ("", 0)), (9, 5, (None, None))), BAD_TOLDS),
    ("make", 0): ((1, 8), BAD_NAMESPACES),
    ("make", 1): ((1, 64), BAD_SIZES),
    ("remove", 0): ((1, 8), BAD_NAMESPACES),
    ("write", 0): ((1, 8), BAD_NAMESPACES),
    ("write", 1): ((0, 63), BAD_PLACES),
    ("write", 2): ((0, -5, 10**30, -(10**30)), BAD_VALUES),
    ("trim", 0): ((1, 8), BAD_NAMESPACES),
    ("trim", 1): ((0, 63), BAD_PLACES),
    ("snap", 0): ((1, 8), BAD_NAMESPACES),
    ("drop", 0): ((1, 8), BAD_NAMESPACES),
    ("drop", 1): ((1, 11), (0, 12, 13, -1, *NO_INTEGERS)),
    ("register", 0): ((1, 8), BAD_NAMESPACES),
    ("leave", 0): ((1, 8), BAD_NAMESPACES),
    ("leave", 1): ((True, False), (0, 1, None, "True", (), [], ANY)),
    ("reserve", 0): ((1, 8), BAD_NAMESPACES),
    ("reserve", 1): (("write", "alone"), (None, *BAD_WAYS)),
    ("release", 0): ((1, 8), BAD_NAMESPACES),
    ("preempt", 0): ((1, 8), BAD_NAMESPACES),
    ("preempt", 1): ((0, 3), BAD_HOSTS),
    ("preempt", 2): (("write", "alone", None), BAD_WAYS),
}

# Their fields are those of samples.FIELDS, their head is (12, kind, 1, 9, counter).
NAMED = (9, 3, ("ok", None))
OTHER_EFFECTS = {
    "mark": [(("told", 1), TOLD)],
    "make": [(("space", 7), 64)],
    "remove": [(("gone", 7), 12)],
    "write": [(("place", 7, 5), 70)],
    "trim": [(("place", 7, 5), None)],
    "snap": [(("snap", 7, 12), 12)],
    "drop": [(("snap", 7, 4), None)],
    "register": [(("key", 7, 1), 12)],
    "leave": [(("key", 7, 1), None), (("hold", 7), None)],
    "reserve": [(("hold", 7), (1, "alone"))],
    "release": [(("hold", 7), None)],
    "preempt": [(("key", 7, 3), None), (("hold", 7), (1, "write"))],
}


def sample(kind, fields=None):
    """The record of a kind with the order 12."""
    return (12, kind, 1, 9, counter_of(kind), *(FIELDS[kind] if fields is None else fields))


def with_field(kind, index, value):
    """The sample's fields with another value for one of them."""
    fields = list(FIELDS[kind])
    fields[index] = value
    return fields


def makes(order, kind, host, session, counter, fields):
    """The record, if make_record and is_record agree on it; None if both refuse it."""
    value = (order, kind, host, session, counter, *fields)
    taken = is_record(value)
    refused = refuses(make_record, order, kind, host, session, counter, fields)
    if taken not in (True, False) or taken == refused:
        raise AssertionError(f"make_record and is_record do not agree on {value}")
    return value if taken else None


class KindsTest(unittest.TestCase):
    def test_the_constants(self):
        self.assertEqual(KINDS, TABLE)
        self.assertIsInstance(KINDS, tuple)
        self.assertEqual((HOSTS, NAMESPACES, PLACES), (4, 8, 64))

    def test_the_number_of_fields_of_each_kind(self):
        self.assertEqual([field_count(kind) for kind in KINDS], [1, 2, 1, 3, 2, 1, 2, 1, 2, 2, 1, 3])

    def test_kinds_that_do_not_exist(self):
        for kind in ("", "Mark", "marks", "read", None, 0, True, ("mark",), ["mark"], {}, b"mark", ANY):
            self.assertTrue(refuses(field_count, kind))
            for fields in FIELDS.values():
                self.assertIsNone(makes(12, kind, 1, 9, 3, fields))


class BoundsTest(unittest.TestCase):
    def test_a_record_of_each_kind_within_its_bounds(self):
        for kind in KINDS:
            for fields in (FIELDS[kind], list(FIELDS[kind])):
                record = make_record(12, kind, 1, 9, counter_of(kind), fields)
                self.assertEqual(record, sample(kind))
                self.assertIsInstance(record, tuple)
                self.assertIs(is_record(record), True)
                self.assertEqual(fields_of(record), FIELDS[kind])
                self.assertIsInstance(fields_of(record), tuple)

    def test_every_field_has_its_edges_listed(self):
        expected = [(kind, index) for kind in KINDS for index in range(field_count(kind))]
        self.assertEqual(list(EDGES), expected)

    def test_fields_on_their_bounds(self):
        for (kind, index), (within, _) in EDGES.items():
            for value in within:
                fields = with_field(kind, index, value)
                record = makes(12, kind, 1, 9, counter_of(kind), fields)
                self.assertEqual(record, sample(kind, fields), (kind, index, value))

    def test_fields_outside_of_their_bounds(self):
        for (kind, index), (_, outside) in EDGES.items():
            for value in outside:
                fields = with_field(kind, index, value)
                self.assertIsNone(makes(12, kind, 1, 9, counter_of(kind), fields), (kind, index, value))

    def test_a_field_too_many_and_too_few(self):
        for kind in KINDS:
            fields = FIELDS[kind]
            for wrong in (fields[:-1], (*fields, 1), (*fields, None), (*fields, *fields), ()):
                self.assertIsNone(makes(12, kind, 1, 9, counter_of(kind), wrong))

    def test_the_order_is_at_least_1(self):
        for kind in KINDS:
            for order in (0, -1, *NO_INTEGERS):
                self.assertIsNone(makes(order, kind, 1, 9, counter_of(kind), FIELDS[kind]))
            if kind != "drop":
                self.assertIsNotNone(makes(1, kind, 1, 9, counter_of(kind), FIELDS[kind]))
            self.assertIsNotNone(makes(10**20, kind, 1, 9, counter_of(kind), FIELDS[kind]))

    def test_a_snapshot_is_less_than_the_order_of_its_record(self):
        self.assertIsNone(makes(1, "drop", 1, 9, 3, (7, 1)))
        self.assertIsNotNone(makes(2, "drop", 1, 9, 3, (7, 1)))
        self.assertIsNotNone(makes(5, "drop", 1, 9, 3, (7, 4)))
        self.assertIsNone(makes(4, "drop", 1, 9, 3, (7, 4)))

    def test_hosts_from_0_to_3(self):
        for kind in KINDS:
            for host in (0, 3):
                self.assertIsNotNone(makes(12, kind, host, 9, counter_of(kind), FIELDS[kind]))
            for host in BAD_HOSTS:
                self.assertIsNone(makes(12, kind, host, 9, counter_of(kind), FIELDS[kind]))

    def test_sessions_from_1_on(self):
        for kind in KINDS:
            for session in (1, 10**20):
                self.assertIsNotNone(makes(12, kind, 1, session, counter_of(kind), FIELDS[kind]))
            for session in (0, -1, *NO_INTEGERS):
                self.assertIsNone(makes(12, kind, 1, session, counter_of(kind), FIELDS[kind]))

    def test_the_counter_of_a_mark_is_0(self):
        self.assertIsNotNone(makes(12, "mark", 1, 9, 0, (None,)))
        for counter in (1, -1, *NO_INTEGERS):
            self.assertIsNone(makes(12, "mark", 1, 9, counter, (None,)))

    def test_the_counter_of_all_others_is_at_least_1(self):
        for kind in KINDS[1:]:
            for counter in (1, 10**20):
                self.assertIsNotNone(makes(12, kind, 1, 9, counter, FIELDS[kind]))
            for counter in (0, -1, *NO_INTEGERS):
                self.assertIsNone(makes(12, kind, 1, 9, counter, FIELDS[kind]))

    def test_a_victim_may_be_the_host_itself(self):
        self.assertIsNotNone(makes(12, "preempt", 1, 9, 3, (7, 1, None)))

    def test_fields_that_are_no_list_and_no_tuple(self):
        for fields in (None, 7, "7", {7: 7}, {7}):
            self.assertTrue(refuses(make_record, 12, "snap", 1, 9, 3, fields))

    def test_the_fields_that_are_passed_do_not_change(self):
        fields = [7, 5, 70]
        make_record(12, "write", 1, 9, 3, fields)
        self.assertEqual(fields, [7, 5, 70])
        fields.append(0)
        self.assertTrue(refuses(make_record, 12, "write", 1, 9, 3, fields))
        self.assertEqual(fields, [7, 5, 70, 0])

    def test_things_that_are_no_records(self):
        for value in (ANY, None, True, 0, 12, "mark", b"mark", 1.5, [], {}, {1}, object(), is_record, "torn"):
            self.assertIs(is_record(value), False)
        for value in ((), (1,), (12, "snap"), (12, "snap", 1, 9, 3), (1, 2, 3, 4, 5, 6), ((),) * 6, (None,) * 6):
            self.assertIs(is_record(value), False)
        for kind in KINDS:
            self.assertIs(is_record(list(sample(kind))), False)
            self.assertIs(is_record((sample(kind),)), False)

    def test_the_example_of_the_document(self):
        record = make_record(12, "write", 1, 9, 4, (3, 60, -5))
        self.assertEqual(record, (12, "write", 1, 9, 4, 3, 60, -5))
        self.assertEqual(effects(record), [(("host", 1), (9, 4, ("ok", None))), (("place", 3, 60), -5)])


class AnswerTest(unittest.TestCase):
    def test_the_answer_of_each_kind(self):
        for kind in KINDS:
            due = ("ok", 12) if kind in ("snap", "register") else ("ok", None)
            self.assertEqual(answer_of(sample(kind)), None if kind == "mark" else due)


class EffectsTest(unittest.TestCase):
    def test_the_first_effect_names_the_command_and_its_answer(self):
        for kind in KINDS:
            record = sample(kind)
            first = (("host", 1), (9, counter_of(kind), answer_of(record)))
            self.assertEqual(effects(record)[0], first)
        self.assertEqual(effects(sample("mark"))[0], (("host", 1), (9, 0, None)))
        self.assertEqual(effects(sample("snap"))[0], (("host", 1), (9, 3, ("ok", 12))))
        self.assertEqual(effects(sample("drop"))[0], (("host", 1), NAMED))

    def test_the_other_effects_in_their_order(self):
        for kind in KINDS:
            self.assertEqual(effects(sample(kind))[1:], OTHER_EFFECTS[kind])

    def test_a_mark_with_nothing_told(self):
        self.assertEqual(effects(sample("mark", (None,)))[1:], [(("told", 1), None)])

    def test_a_write_of_0_has_a_value(self):
        self.assertEqual(effects(sample("write", (7, 5, 0)))[1:], [(("place", 7, 5), 0)])

    def test_a_leave_of_a_host_that_does_not_hold(self):
        self.assertEqual(effects(sample("leave", (7, False)))[1:], [(("key", 7, 1), None)])

    def test_a_preempt_that_does_not_change_the_holder(self):
        self.assertEqual(effects(sample("preempt", (7, 3, None)))[1:], [(("key", 7, 3), None)])

    def test_a_preempt_in_the_way_alone(self):
        due = [(("key", 7, 0), None), (("hold", 7), (1, "alone"))]
        self.assertEqual(effects(sample("preempt", (7, 0, "alone")))[1:], due)

    def test_the_list_is_the_callers_own(self):
        record = sample("leave")
        before = effects(record)
        before.clear()
        self.assertEqual(effects(record)[1:], OTHER_EFFECTS["leave"])
        self.assertEqual(record, sample("leave"))
        self.assertEqual(before, [])


class EachOnceTest(unittest.TestCase):
    def test_ascending_and_equal_ones_once(self):
        first, second, third = (2, "a"), (10, "b"), (30, "c")
        records = [third, first, second, first, third]
        self.assertEqual(each_once(records), [first, second, third])
        self.assertEqual(records, [third, first, second, first, third])
        self.assertEqual(each_once([]), [])

    def test_different_ones_of_the_same_order_are_kept(self):
        self.assertEqual(each_once([(2, "b"), (1, "a"), (2, "c"), (2, "b")]), [(1, "a"), (2, "b"), (2, "c")])


if __name__ == "__main__":
    unittest.main()
