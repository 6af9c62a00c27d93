"""Points [17] to [21]: rows, hidden rows, views, live records, the core, shared places and the need."""

import random
import unittest

from histories import History
from samples import NO_INTEGERS, of_host, refuses

from spindlegate.index import core, live_records, need, shared_places, snapshots_of, value_at
from spindlegate.records import effects, make_record
from spindlegate.state import fold

# The records of the example of the interface of index.py.
EXAMPLE = [
    (1, "mark", 0, 1, 0, None),
    (2, "make", 0, 1, 1, 2, 64),
    (3, "write", 0, 1, 2, 2, 5, 70),
    (4, "snap", 0, 1, 3, 2),
    (5, "trim", 0, 1, 4, 2, 5),
]
PLACE = ("place", 2, 5)


def with_last(records):
    """The records and one more of each host, so that none of them is live as the last one of its host."""
    hosts = sorted({record[2] for record in records})
    order = max(record[0] for record in records)
    return records + [(order + at, "mark", host, 1, 0, None) for at, host in enumerate(hosts, 1)]


def orders(records):
    return [record[0] for record in records]


def live_orders(*rows):
    """The orders of the live records among these ones of host 0, the last one of the host not counted."""
    records = with_last(of_host(0, *rows))
    return [order for order in orders(live_records(records)) if order <= len(rows)]


# The points [17] to [21], word by word, with no regard to time.

def plain_topics(records):
    return list(dict.fromkeys(topic for record in records for topic, _ in effects(record)))


def plain_rows(records, topic):
    found = {record[0]: dict(effects(record))[topic] for record in records if topic in dict(effects(record))}
    return sorted(found.items())


def plain_hides(records, topic, order, number):
    if topic[0] in ("host", "told"):
        return False
    return any(order < gone < number for gone, _ in plain_rows(records, ("gone", topic[1])))


def plain_snapshots(records, namespace):
    found = []
    for topic in plain_topics(records):
        if topic[:2] == ("snap", namespace):
            order, value = plain_rows(records, topic)[-1]
            if value is not None and not plain_hides(records, topic, order, 10**6):
                found.append(topic[2])
    return sorted(found)


def plain_value(records, topic, number):
    rows = [row for row in plain_rows(records, topic) if row[0] < number]
    if not rows or plain_hides(records, topic, rows[-1][0], number):
        return None
    return rows[-1][1]


def plain_is_live(records, record):
    for topic, value in effects(record):
        rows = plain_rows(records, topic)
        if topic[0] == "host":
            if rows[-1][0] == record[0]:
                return True
        elif topic[0] == "gone":
            others = [other for other in records if other[0] < record[0] and other[1] != "mark"]
            if rows[-1][0] == record[0] and topic[1] in [other[5] for other in others]:
                return True
        else:
            numbers = plain_snapshots(records, topic[1]) if topic[0] == "place" else []
            for number in [10**6, *numbers]:
                counting = [row for row in rows if row[0] < number]
                is_last = counting and counting[-1][0] == record[0]
                if is_last and not plain_hides(records, topic, record[0], number):
                    if value is not None or rows[0][0] != record[0]:
                        return True
    return False


def plain_live(records):
    return sorted({record for record in records if plain_is_live(records, record)})


def plain_core(records):
    left = sorted(set(records))
    while plain_live(left) != left:
        left = plain_live(left)
    return left


def plain_shared(records):
    found = []
    for topic in plain_topics(records):
        if topic[0] == "place" and plain_value(records, topic, 10**6) is not None:
            order = plain_rows(records, topic)[-1][0]
            if any(number > order for number in plain_snapshots(records, topic[1])):
                found.append(topic[1:])
    return sorted(found)


def random_sets(count):
    """Histories, and what is left of them when some records are taken away, which may leave them strange."""
    for seed in range(count):
        chance = random.Random(seed)
        records = History(seed, 2, 3).grow(chance.randint(0, 60)).records
        yield records
        yield [record for record in records if chance.random() < 0.6]


class ExampleTest(unittest.TestCase):
    def test_with_the_trim(self):
        self.assertEqual(orders(live_records(EXAMPLE)), [2, 3, 4, 5])
        self.assertEqual(orders(core(EXAMPLE)), [2, 3, 4, 5])
        self.assertEqual(shared_places(EXAMPLE), [])
        self.assertEqual(need(EXAMPLE), 4)
        self.assertIsNone(value_at(EXAMPLE, PLACE, None))
        self.assertEqual(value_at(EXAMPLE, PLACE, (2, 4)), 70)

    def test_without_the_trim(self):
        records = EXAMPLE[:4]
        self.assertEqual(live_records(records), EXAMPLE[1:4])
        self.assertEqual(core(records), EXAMPLE[1:4])
        self.assertEqual(shared_places(records), [(2, 5)])
        self.assertEqual(need(records), 4)
        self.assertEqual(value_at(records, PLACE, None), 70)
        self.assertEqual(value_at(records, PLACE, (2, 4)), 70)


class RowsTest(unittest.TestCase):
    """Point [17], by the values of the topics."""

    def test_no_records(self):
        for topic in (("host", 0), ("told", 0), ("space", 2), ("gone", 2), PLACE, ("snap", 2, 4), ("key", 2, 0)):
            self.assertIsNone(value_at([], topic, None))
        self.assertEqual((live_records([]), core([]), shared_places([]), need([])), ([], [], [], 0))
        self.assertEqual(snapshots_of([], 2), [])

    def test_the_rows_of_each_kind(self):
        told = (3, 2, ("ok", None))
        cases = [
            ("mark", (told,), [(("told", 1), told)]),
            ("make", (2, 9), [(("space", 2), 9)]),
            ("remove", (2,), [(("gone", 2), 12)]),
            ("write", (2, 5, 0), [(("place", 2, 5), 0)]),
            ("trim", (2, 5), [(("place", 2, 5), None)]),
            ("snap", (2,), [(("snap", 2, 12), 12)]),
            ("drop", (2, 4), [(("snap", 2, 4), None)]),
            ("register", (2,), [(("key", 2, 1), 12)]),
            ("leave", (2, False), [(("key", 2, 1), None)]),
            ("leave", (2, True), [(("key", 2, 1), None), (("hold", 2), None)]),
            ("reserve", (2, "alone"), [(("hold", 2), (1, "alone"))]),
            ("release", (2,), [(("hold", 2), None)]),
            ("preempt", (2, 0, None), [(("key", 2, 0), None)]),
            ("preempt", (2, 0, "write"), [(("key", 2, 0), None), (("hold", 2), (1, "write"))]),
        ]
        before = [
            (1, "mark", 1, 5, 0, (1, 1, None)), (2, "make", 0, 1, 1, 2, 3), (3, "write", 0, 1, 2, 2, 5, 1),
            (4, "snap", 0, 1, 3, 2), (5, "register", 0, 1, 4, 2), (6, "register", 1, 1, 4, 2),
            (7, "reserve", 0, 1, 5, 2, "write"),
        ]
        for kind, fields, rows in cases:
            record = make_record(12, kind, 1, 9, 0 if kind == "mark" else 3, fields)
            self.assertEqual(value_at(before + [record], ("host", 1), None)[:2], (9, record[4]))
            for topic, value in rows:
                self.assertEqual(value_at(before + [record], topic, None), value, (kind, topic))
                self.assertEqual(value_at([record], topic, None), value, (kind, topic))

    def test_the_last_row_counts(self):
        records = of_host(0, ("write", 2, 5, 1), ("write", 2, 6, 2), ("write", 2, 5, 3), ("write", 3, 5, 4))
        for shuffled in (records, records[::-1], records[2:] + records[:2]):
            self.assertEqual(value_at(shuffled, PLACE, None), 3)
            self.assertEqual(value_at(shuffled, ("place", 2, 6), None), 2)
            self.assertEqual(value_at(shuffled, ("place", 3, 5), None), 4)
            self.assertEqual(value_at(shuffled, ("host", 0), None), (1, 4, ("ok", None)))

    def test_orders_are_compared_as_numbers(self):
        records = [(10, "write", 0, 1, 2, 2, 5, 10), (9, "write", 0, 1, 1, 2, 5, 9), (100, "snap", 0, 1, 3, 2)]
        self.assertEqual(value_at(records, PLACE, (2, 100)), 10)
        self.assertEqual(live_records(records), [records[0], records[2]])

    def test_a_removed_namespace_hides_all_of_its_rows(self):
        records = of_host(
            0, ("make", 2, 9), ("write", 2, 5, 1), ("snap", 2), ("register", 2), ("reserve", 2, "write"),
            ("make", 3, 9), ("write", 3, 5, 7), ("remove", 2),
        )
        for topic in (("space", 2), PLACE, ("snap", 2, 3), ("key", 2, 0), ("hold", 2)):
            self.assertIsNotNone(value_at(records[:7], topic, None))
            self.assertIsNone(value_at(records, topic, None))
        self.assertEqual(value_at(records, ("gone", 2), None), 8)
        self.assertEqual(value_at(records, ("space", 3), None), 9)
        self.assertEqual(value_at(records, ("place", 3, 5), None), 7)
        self.assertEqual(value_at(records, ("host", 0), None), (1, 8, ("ok", None)))

    def test_a_namespace_that_is_made_again(self):
        records = of_host(
            0, ("make", 2, 9), ("write", 2, 5, 1), ("write", 2, 6, 2), ("register", 2), ("remove", 2),
            ("make", 2, 4), ("write", 2, 6, 3), ("snap", 2), ("write", 2, 6, 4),
        )
        self.assertEqual(value_at(records, ("space", 2), None), 4)
        for snapshot, value in ((None, 4), ((2, 8), 3)):
            self.assertIsNone(value_at(records, PLACE, snapshot))
            self.assertIsNone(value_at(records, ("key", 2, 0), snapshot))
            self.assertEqual(value_at(records, ("place", 2, 6), snapshot), value)

    def test_equal_records_count_once_in_any_order(self):
        chance = random.Random(5)
        for records in random_sets(10):
            doubled = records + records[::2] + [tuple(record) for record in records[::3]]
            chance.shuffle(doubled)
            kept = list(doubled)
            self.assertEqual(live_records(doubled), live_records(records))
            self.assertEqual(core(doubled), core(records))
            self.assertEqual(shared_places(doubled), shared_places(records))
            self.assertEqual(need(doubled), need(records))
            for topic in plain_topics(records):
                self.assertEqual(value_at(doubled, topic, None), value_at(records, topic, None))
            self.assertEqual(doubled, kept)


class SnapshotsTest(unittest.TestCase):
    """Point [18]."""

    RECORDS = of_host(
        0, ("make", 2, 9), ("snap", 2), ("write", 2, 5, 1), ("snap", 2), ("make", 3, 9), ("snap", 3), ("drop", 2, 2),
        ("trim", 2, 5), ("snap", 2), ("remove", 3), ("make", 3, 9), ("snap", 3),
    )

    def test_the_snapshots_that_exist(self):
        self.assertEqual(snapshots_of(self.RECORDS, 2), [4, 9])
        self.assertEqual(snapshots_of(self.RECORDS, 3), [12])
        self.assertEqual(snapshots_of(self.RECORDS, 1), [])
        self.assertEqual(snapshots_of(self.RECORDS[:6], 2), [2, 4])
        self.assertEqual(snapshots_of(self.RECORDS[:6], 3), [6])
        self.assertEqual(snapshots_of(self.RECORDS[::-1] * 2, 2), [4, 9])

    def test_the_values_in_snapshots(self):
        self.assertEqual(value_at(self.RECORDS, PLACE, (2, 4)), 1)
        self.assertIsNone(value_at(self.RECORDS, PLACE, (2, 9)))
        self.assertIsNone(value_at(self.RECORDS[:6], PLACE, (2, 2)))
        self.assertEqual(value_at(self.RECORDS, ("space", 2), (2, 4)), 9)

    def test_the_record_of_the_snapshot_does_not_count_in_it(self):
        self.assertIsNone(value_at(self.RECORDS, ("snap", 2, 4), (2, 4)))
        self.assertEqual(value_at(self.RECORDS, ("snap", 2, 4), (2, 9)), 4)
        self.assertEqual(value_at(self.RECORDS, ("host", 0), (2, 4)), (1, 3, ("ok", None)))

    def test_snapshots_that_do_not_exist(self):
        # Never made, dropped, of a removed namespace, of another namespace, no number of a snapshot.
        for snapshot in ((2, 99), (2, 2), (3, 6), (3, 4), (2, 12), (1, 4), (2, 3), (2, 0), (2, None), (True, 4)):
            self.assertTrue(refuses(value_at, self.RECORDS, PLACE, snapshot), snapshot)
        for number in NO_INTEGERS:
            self.assertTrue(refuses(value_at, self.RECORDS, PLACE, (2, number)))
        self.assertTrue(refuses(value_at, [], PLACE, (2, 4)))

    def test_true_is_no_number_of_a_snapshot(self):
        records = [(1, "snap", 0, 1, 1, 1), (2, "snap", 0, 1, 2, 1)]
        self.assertIsNone(value_at(records, ("place", 1, 1), (1, 1)))
        for snapshot in ((1, True), (True, 1), (True, 2)):
            self.assertTrue(refuses(value_at, records, ("place", 1, 1), snapshot))

    def test_a_removed_namespace_has_no_snapshots_also_if_it_is_made_again(self):
        records = of_host(0, ("make", 2, 9), ("snap", 2), ("remove", 2), ("make", 2, 9))
        for count, due in ((2, [2]), (3, []), (4, [])):
            self.assertEqual(snapshots_of(records[:count], 2), due)


class LiveTest(unittest.TestCase):
    """Point [19]."""

    def test_the_last_record_of_each_host(self):
        records = [(1, "mark", 0, 1, 0, None), (2, "mark", 1, 1, 0, None), (3, "trim", 0, 1, 1, 2, 5)]
        self.assertEqual(live_records(records), records[1:])

    def test_what_a_host_was_told(self):
        told = (1, 1, None)
        self.assertEqual(live_orders(("mark", told)), [])
        first, other = (1, "mark", 0, 1, 0, told), (2, "trim", 0, 1, 1, 2, 5)
        self.assertEqual(live_records([first, other]), [first, other])
        nothing = (1, "mark", 0, 1, 0, None)
        self.assertEqual(live_records([nothing, other]), [other])
        # A mark with nothing told hides one with something.
        again = (2, "mark", 0, 2, 0, None)
        self.assertEqual(live_records([first, again, (3, "trim", 0, 2, 1, 2, 5)]), [again, (3, "trim", 0, 2, 1, 2, 5)])

    def test_namespaces(self):
        self.assertEqual(live_orders(("make", 2, 9)), [1])
        self.assertEqual(live_orders(("make", 2, 9), ("make", 3, 9)), [1, 2])

    def test_a_removal_is_live_while_something_of_its_namespace_is_there(self):
        self.assertEqual(live_orders(("remove", 2)), [])
        self.assertEqual(live_orders(("make", 2, 9), ("remove", 2)), [2])
        self.assertEqual(live_orders(("make", 3, 9), ("remove", 2)), [1])
        self.assertEqual(live_orders(("remove", 2), ("make", 2, 9)), [2])
        self.assertEqual(live_orders(("make", 2, 9), ("remove", 2), ("make", 2, 9), ("remove", 2)), [4])
        # An earlier removal is a record of the namespace, too.
        self.assertEqual(live_orders(("remove", 2), ("remove", 2)), [2])
        for row in (("register", 2), ("leave", 2, True), ("release", 2), ("trim", 2, 5), ("preempt", 2, 1, None)):
            self.assertEqual(live_orders(row, ("remove", 2)), [2])

    def test_a_remade_namespace(self):
        rows = [("make", 2, 9), ("write", 2, 5, 1), ("remove", 2), ("make", 2, 9), ("write", 2, 6, 1)]
        self.assertEqual(live_orders(*rows), [3, 4, 5])

    def test_values_at_present(self):
        self.assertEqual(live_orders(("write", 2, 5, 0)), [1])
        self.assertEqual(live_orders(("write", 2, 5, 1), ("write", 2, 5, 2)), [2])
        self.assertEqual(live_orders(("write", 2, 5, 1), ("write", 2, 6, 2), ("write", 3, 5, 2)), [1, 2, 3])

    def test_a_trim_hides_what_was_before_it(self):
        self.assertEqual(live_orders(("trim", 2, 5)), [])
        self.assertEqual(live_orders(("write", 2, 5, 1), ("trim", 2, 5)), [2])
        self.assertEqual(live_orders(("write", 2, 5, 1), ("trim", 2, 6)), [1])
        self.assertEqual(live_orders(("trim", 2, 5), ("trim", 2, 5)), [2])
        self.assertEqual(live_orders(("write", 2, 5, 1), ("trim", 2, 5), ("write", 2, 5, 3)), [3])

    def test_a_trim_is_live_also_if_what_is_before_it_is_hidden(self):
        rows = [("make", 2, 9), ("write", 2, 5, 1), ("remove", 2), ("make", 2, 9), ("trim", 2, 5)]
        self.assertEqual(live_orders(*rows), [3, 4, 5])

    def test_values_in_snapshots(self):
        rows = [("make", 2, 9), ("write", 2, 5, 1), ("snap", 2), ("write", 2, 5, 2), ("write", 2, 5, 3)]
        self.assertEqual(live_orders(*rows), [1, 2, 3, 5])
        self.assertEqual(live_orders(*rows, ("snap", 2)), [1, 2, 3, 5, 6])
        self.assertEqual(live_orders(*rows, ("drop", 2, 3)), [1, 5, 6])
        self.assertEqual(live_orders(*rows, ("remove", 2)), [6])
        # A snapshot of another namespace shows nothing.
        self.assertEqual(live_orders(*rows[:2], ("snap", 3), *rows[3:]), [1, 3, 5])

    def test_a_trim_in_a_snapshot(self):
        rows = [("write", 2, 5, 1), ("trim", 2, 5), ("snap", 2), ("write", 2, 5, 4)]
        self.assertEqual(live_orders(*rows), [2, 3, 4])
        self.assertEqual(live_orders(*rows[1:]), [2, 3])

    def test_other_topics_are_looked_at_at_present_only(self):
        rows = [("register", 2), ("reserve", 2, "write"), ("snap", 2), ("release", 2), ("leave", 2, False)]
        self.assertEqual(live_orders(*rows[:3]), [1, 2, 3])
        self.assertEqual(live_orders(*rows), [3, 4, 5])

    def test_dropped_snapshots(self):
        self.assertEqual(live_orders(("snap", 2), ("drop", 2, 1)), [2])
        self.assertEqual(live_orders(("make", 2, 9), ("drop", 2, 1)), [1])

    def test_registrations_and_reservations(self):
        self.assertEqual(live_orders(("register", 2), ("register", 2)), [2])
        self.assertEqual(live_orders(("register", 2), ("leave", 2, False)), [2])
        self.assertEqual(live_orders(("leave", 2, False)), [])
        self.assertEqual(live_orders(("leave", 2, True)), [])
        self.assertEqual(live_orders(("reserve", 2, "write"), ("leave", 2, True)), [2])
        self.assertEqual(live_orders(("reserve", 2, "write"), ("leave", 2, False)), [1])
        self.assertEqual(live_orders(("reserve", 2, "write"), ("reserve", 2, "alone")), [2])
        self.assertEqual(live_orders(("reserve", 2, "write"), ("release", 2)), [2])
        self.assertEqual(live_orders(("release", 2)), [])

    def test_preempting(self):
        register = (1, "register", 1, 1, 1, 2)
        for way, due in ((None, [2]), ("write", [2])):
            records = with_last([register, (2, "preempt", 0, 1, 1, 2, 1, way)])
            self.assertEqual([order for order in orders(live_records(records)) if order < 3], due)
        self.assertEqual(live_orders(("preempt", 2, 1, None)), [])
        self.assertEqual(live_orders(("preempt", 2, 1, "alone")), [1])
        self.assertEqual(live_orders(("preempt", 2, 1, "alone"), ("release", 2)), [2])

    def test_as_the_points_say_word_by_word(self):
        for records in random_sets(60):
            self.assertEqual(live_records(records), plain_live(records))
            self.assertEqual(core(records), plain_core(records))
            self.assertEqual(shared_places(records), plain_shared(records))
            self.assertEqual(need(records), len(plain_core(records)) + len(plain_shared(records)))
            for namespace in (1, 2, 3):
                self.assertEqual(snapshots_of(records, namespace), plain_snapshots(records, namespace))

    def test_the_values_as_the_points_say_word_by_word(self):
        for records in random_sets(12):
            views = {(namespace, number): number for namespace in (1, 2) for number in snapshots_of(records, namespace)}
            for topic in plain_topics(records):
                self.assertEqual(value_at(records, topic, None), plain_value(records, topic, 10**6))
                for snapshot, number in views.items():
                    self.assertEqual(value_at(records, topic, snapshot), plain_value(records, topic, number))


def shown(records, topics):
    """The value of each topic at present, and of each place in the snapshots of its namespace."""
    found = {}
    for topic in topics:
        # A removal that hides nothing is not live itself, and its own topic has no value without it.
        if topic[0] != "gone":
            found[topic] = [value_at(records, topic, None)]
        if topic[0] == "place":
            found[topic] += [value_at(records, topic, (topic[1], n)) for n in snapshots_of(records, topic[1])]
    return found


def hides(record, other):
    """True if a record hides another one, which is before it: by a removal, or by a topic that has no value."""
    if other[0] > record[0]:
        return False
    if record[1] == "remove":
        return other[1] != "mark" and other[5] == record[5]
    return any(value is None and topic in dict(effects(other)) for topic, value in effects(record))


class LeavingOutTest(unittest.TestCase):
    """Point [20]."""

    def test_every_value_stays(self):
        chance = random.Random(20)
        for seed in range(25):
            records = History(seed, 2, 3).grow(60).records
            topics = plain_topics(records)
            before = shown(records, topics)
            snapshots = [snapshots_of(records, namespace) for namespace in (1, 2)]
            left = records
            while True:
                live = live_records(left)
                dead = [record for record in left if record not in live]
                if not dead:
                    break
                gone = {chance.choice(dead), *[record for record in dead if chance.random() < 0.5]}
                left = [record for record in left if record not in gone]
                self.assertEqual(shown(left, topics), before)
                self.assertEqual([snapshots_of(left, namespace) for namespace in (1, 2)], snapshots)
                self.assertEqual(fold(left), fold(records))

    def test_what_was_live_and_hides_nothing_that_is_left_out_is_live_again(self):
        for seed in range(25):
            records = History(seed, 2, 3).grow(60).records
            live = live_records(records)
            again = live_records(live)
            dead = [record for record in records if record not in live]
            self.assertLessEqual(set(again), set(live))
            for record in live:
                if not any(hides(record, other) for other in dead):
                    self.assertIn(record, again)

    def test_what_only_hid_what_is_left_out_is_not_live_any_more(self):
        records = with_last(of_host(0, ("write", 2, 5, 1), ("trim", 2, 5), ("make", 3, 9), ("remove", 3)))
        live = live_records(records)
        self.assertEqual(orders(live), [2, 4, 5])
        self.assertEqual(orders(live_records(live)), [5])


class NeedTest(unittest.TestCase):
    """Point [21]."""

    def test_the_core_is_smaller_than_the_live_records(self):
        records = with_last(of_host(0, ("make", 2, 9), ("write", 2, 5, 1), ("trim", 2, 5), ("make", 3, 9)))
        self.assertEqual(orders(live_records(records)), [1, 3, 4, 5])
        self.assertEqual(orders(core(records)), [1, 4, 5])
        self.assertEqual(need(records), 3)

    def test_the_core_takes_several_steps(self):
        # First the removal and the last trim hide something; without it the removal is not live, and so on.
        records = with_last(of_host(0, ("write", 2, 5, 1), ("trim", 2, 5), ("remove", 2)))
        self.assertEqual(orders(live_records(records)), [3, 4])
        self.assertEqual(orders(core(records)), [4])
        records = with_last(of_host(
            0, ("make", 2, 9), ("write", 2, 5, 1), ("remove", 2), ("make", 2, 9), ("trim", 2, 5), ("trim", 2, 5)))
        self.assertEqual(orders(live_records(records)), [3, 4, 6, 7])
        self.assertEqual(orders(live_records(live_records(records))), [4, 7])
        self.assertEqual(orders(core(records)), [4, 7])

    def test_the_core_of_a_core(self):
        for records in random_sets(20):
            self.assertEqual(core(core(records)), core(records))
            self.assertEqual(live_records(core(records)), core(records))

    def test_shared_places(self):
        rows = [("make", 2, 9), ("write", 2, 6, 1), ("write", 2, 5, 1), ("snap", 2)]
        records = of_host(0, *rows)
        self.assertEqual(shared_places(records), [(2, 5), (2, 6)])
        self.assertEqual(need(records), 4 + 2)
        self.assertEqual(shared_places(records[:3]), [])
        # A second snapshot shares the same places.
        again = of_host(0, *rows, ("snap", 2))
        self.assertEqual(shared_places(again), [(2, 5), (2, 6)])
        self.assertEqual(need(again), 5 + 2)

    def test_a_shared_place_that_is_overwritten_or_trimmed(self):
        rows = [("make", 2, 9), ("write", 2, 5, 1), ("snap", 2)]
        for row in (("write", 2, 5, 2), ("trim", 2, 5)):
            records = of_host(0, *rows, row)
            self.assertEqual(shared_places(records), [])
            self.assertEqual(need(records), need(of_host(0, *rows)))
        # It is shared again with the next snapshot, but not when it has no value.
        self.assertEqual(shared_places(of_host(0, *rows, ("write", 2, 5, 2), ("snap", 2))), [(2, 5)])
        self.assertEqual(shared_places(of_host(0, *rows, ("trim", 2, 5), ("snap", 2))), [])

    def test_places_that_are_not_shared(self):
        rows = [("make", 2, 9), ("write", 2, 5, 1), ("snap", 2)]
        self.assertEqual(shared_places(of_host(0, *rows, ("drop", 2, 3))), [])
        self.assertEqual(shared_places(of_host(0, *rows, ("remove", 2))), [])
        self.assertEqual(shared_places(of_host(0, *rows, ("remove", 2), ("make", 2, 9), ("snap", 2))), [])
        self.assertEqual(shared_places(of_host(0, *rows[:2], ("snap", 3))), [])
        self.assertEqual(shared_places(of_host(0, ("make", 2, 9), ("snap", 2), ("write", 2, 5, 1))), [])

    def test_shared_places_are_ascending(self):
        rows = [("write", 3, 1, 1), ("write", 2, 10, 1), ("write", 2, 9, 1), ("snap", 2), ("snap", 3)]
        self.assertEqual(shared_places(of_host(0, *rows)), [(2, 9), (2, 10), (3, 1)])

    def test_a_trim_raises_the_need_by_at_most_the_last_record_of_its_host(self):
        for seed in range(20):
            history = History(seed, 2, 3).grow(50)
            state = history.state()
            last = (51, "trim", 0, 10**6, 1)
            for namespace, (_, cells, _) in state["spaces"].items():
                for place in cells:
                    after = history.records + [(*last, namespace, place)]
                    self.assertLessEqual(need(after), need(history.records) + 1)


class ArgumentsTest(unittest.TestCase):
    def test_nothing_that_is_passed_changes_and_lists_are_the_callers_own(self):
        for function in (live_records, core, shared_places, need, lambda records: snapshots_of(records, 2),
                         lambda records: value_at(records, PLACE, (2, 4))):
            records = EXAMPLE[::-1] + EXAMPLE
            kept = list(records)
            found = function(records)
            self.assertEqual(records, kept)
            if isinstance(found, list):
                due = list(found)
                found.append(0)
                self.assertEqual(function(records), due)


if __name__ == "__main__":
    unittest.main()
