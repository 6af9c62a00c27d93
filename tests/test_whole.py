"""Point [1] and what it rests on: worlds played by long lists of acts, with power cuts in any operation."""

import unittest

from counting import SHARES, Counting, a_command, some_acts
from plain import FLUSHED, Plain

from spindlegate.checks import check, image_need, spare_pages
from spindlegate.flash import flash_from
from spindlegate.index import live_records
from spindlegate.judge import first_fault
from spindlegate.state import new_state
from spindlegate.store import Store
from spindlegate.world import World


class Watched:
    """A world, and what is to be true of it: the states by their orders, and what lasts at least."""

    def __init__(self, test, start, blocks, hosts):
        self.test = test
        self.counting = Counting(start)
        self.world = World(blocks, hosts)
        self.states = {0: new_state()}
        self.lasting = 0

    def play(self, act):
        rows = len(self.world.history())
        [changed] = self.world.play([act])
        if act[0] == "cut":
            self.look_at_the_cut()
        elif self.world.state() is not None:
            self.note_rows(rows)
        else:
            state = self.world.store.state
            self.states[state["order"]] = state
        return changed

    def note_rows(self, rows):
        """What an act has carried out, and answered; what was answered behind a flush lasts."""
        state = self.world.state()
        self.states[state["order"]] = state
        for _, order, _, _, _, _, command, (word, _) in self.world.history()[rows:]:
            if command[0] == "connect" or (word == "ok" and command[0] in FLUSHED):
                self.lasting = order

    def look_at_the_cut(self):
        """The state is that of an order that is at least that of the last flush that was answered."""
        state, image = self.world.state(), self.world.flash.image()
        self.test.assertGreaterEqual(state["order"], self.lasting)
        self.test.assertEqual(state, self.states[state["order"]])
        self.test.assertEqual(check(image), state)
        self.test.assertLessEqual(image_need(image), self.world.store.limit())
        self.test.assertGreaterEqual(spare_pages(image), 1)
        self.test.assertEqual(self.world.cuts()[-1], state["order"])
        self.states = {order: self.states[order] for order in self.states if order <= state["order"]}
        self.lasting = state["order"]

    def play_some(self, count, failures):
        for _ in range(count):
            for act in some_acts(self.counting, self.world.state(), failures):
                self.play(act)
            if self.world.state() is None and self.counting.happens(50):
                self.play(("cut", self.counting.below(3)))

    def settle(self):
        """Cut the power, and let each host learn what has become of its commands."""
        self.play(("cut", 2))
        for host in range(len(self.world.hosts)):
            self.play(("up", host, 0))
            for to_host in (True, False):
                while self.play(("drop", host, 0, 0, to_host)):
                    pass
            for _ in range(5):
                self.play(("begin", host, 0, ("flush",)))
                self.play(("again", host, 0))
                while self.play(("arrive", host, 0, 0)):
                    pass
                while self.play(("answer", host, 0, 0)):
                    pass


def worlds(count, length, failures):
    """Worlds of 1 to 4 hosts and of several sizes, that were played for long."""
    found = []
    for start in range(count):
        watched = Watched(unittest.TestCase(), 100 * length + start, 8 + start // 4 % 3, 1 + start % 4)
        watched.play_some(length, failures)
        found.append(watched)
    return found


class WholeTest(unittest.TestCase):
    @classmethod
    def setUpClass(cls):
        cls.played = worlds(16, 700, 5)

    def test_much_was_done(self):
        rows = [row for watched in self.played for row in watched.world.history()]
        self.assertGreater(len(rows), 2500)
        self.assertGreater(sum(len(watched.world.cuts()) for watched in self.played), 150)
        erased = [wear for watched in self.played for wear, _ in watched.world.flash.image()]
        self.assertGreater(sum(erased), 60)
        words = {(row[6][0], row[7][0]) for row in rows}
        for word in SHARES:
            self.assertIn((word, "ok"), words)
        for word in ("exists", "none", "conflict", "held", "room"):
            self.assertIn(word, {answer for _, answer in words})

    def test_the_history_has_no_fault(self):
        for watched in self.played:
            world = watched.world
            self.assertEqual(first_fault(world.history(), world.cuts()), ("", -1))

    def test_power_that_fails_all_the_time(self):
        cuts = 0
        for watched in worlds(12, 300, 40):
            world = watched.world
            self.assertEqual(first_fault(world.history(), world.cuts()), ("", -1))
            cuts += len(world.cuts())
        self.assertGreater(cuts, 200)

    def test_worlds_without_a_failure(self):
        for watched in worlds(8, 500, 0):
            world = watched.world
            self.assertEqual(world.cuts(), [])
            self.assertEqual(first_fault(world.history(), []), ("", -1))
            self.assertEqual([host.lost() for host in world.hosts], [[]] * len(world.hosts))
            self.assertEqual(check(world.flash.image()), watched.states[world.store.lasting_order()])

    def test_each_command_at_most_once(self):
        for watched in self.played:
            names = [row[2:5] for row in watched.world.history() if row[4] > 0]
            self.assertEqual(len(set(names)), len(names))

    def test_a_plain_subsystem_gives_the_same_answers(self):
        for watched in self.played:
            world, plain = watched.world, Plain()
            for run, _, host, session, counter, key, command, answer in world.history():
                while plain.run < run:
                    plain.go_on(world.cuts()[plain.run])
                if command == ("connect",):
                    plain.connect(host, session)
                else:
                    plain.do(host, session, counter, key, command, answer != ("room", None))
            while plain.run < len(world.cuts()):
                plain.go_on(world.cuts()[plain.run])
            self.assertEqual(world.history(), plain.rows)
            self.assertEqual(world.store.state, plain.state())

    def test_the_hosts_learn_what_has_become_of_their_commands(self):
        lost = 0
        for watched in worlds(12, 400, 8):
            watched.settle()
            world = watched.world
            lasting = self.lasting_rows(world)
            for host in world.hosts:
                self.assertEqual(host.state, "idle")
                self.assertEqual(len(set(host.lost())), len(host.lost()))
                names = [row[:2] for row in host.ended()]
                self.assertEqual(names, sorted(set(names)))
                for session, counter, command, answer in host.ended():
                    name = (host.number, session, counter)
                    if (session, counter) in host.lost():
                        lost += 1
                        self.assertNotIn(name, lasting)
                    elif name in lasting:
                        self.assertEqual(lasting[name], (command, answer))
                    else:
                        # It left no record: it was refused, or it changed nothing.
                        self.assertNotEqual(answer[0], "lost")
                        self.assertTrue(answer[0] != "ok" or command[0] in (
                            "read", "view", "flush", "trim", "register", "reserve"), (command, answer))
        self.assertGreater(lost, 30)

    def lasting_rows(self, world):
        """The commands whose records were never cut off, by their names."""
        rows, cuts = world.history(), world.cuts()
        found, before = {}, (0, 0)
        for run, order, host, session, counter, _, command, answer in rows:
            # Each run goes on from the order of its cut.
            last = before[1] if before[0] == run else cuts[run - 1]
            if order > last and all(order <= cut for cut in cuts[run:]):
                found[(host, session, counter)] = (command, answer)
            before = (run, order)
        return found

    def test_a_host_that_was_cast_out_stays_out(self):
        refused = 0
        for watched in self.played:
            keys, ended, cuts = {}, set(), watched.world.cuts()
            for run, order, host, _, _, key, command, answer in watched.world.history():
                if key in ended:
                    refused += 1
                    self.assertIn(answer[0], ("conflict", "none"), (command, answer))
                if answer[0] != "ok" or any(order > cut for cut in cuts[run:]):
                    continue
                if command[0] == "register":
                    self.assertNotIn(answer[1], ended)
                    keys[(command[1], host)] = answer[1]
                out = {"leave": [host], "preempt": command[2:], "remove": range(4)}.get(command[0], [])
                ended.update(keys.pop((command[1], victim), None) for victim in out)
                ended.discard(None)
        self.assertGreater(refused, 10)

    def test_a_late_letter_of_a_host_that_was_cast_out(self):
        write = ("write", 3, 5, 50)
        for cut in ([], [("cut", 0)]):
            world = World(8, 2)
            for host, command in ((0, ("flush",)), (0, ("make", 3, 10)), (0, ("register", 3)), (1, ("flush",)),
                                  (1, ("register", 3))):
                world.play([("begin", host, 0, command), ("arrive", host, 0, 0), ("answer", host, 0, 0)])
            world.play([("begin", 0, 0, write), ("again", 0, 1), ("double", 0, 1, 0, False), ("down", 0, 1)])
            world.play([("begin", 1, 0, ("preempt", 3, 0)), ("arrive", 1, 0, 0), *cut])
            # The letter that comes first is refused, and the others are nothing new.
            self.assertEqual(world.play([("arrive", 0, 0, 0), ("answer", 0, 0, 0)]), [True, True])
            expected = [] if cut else [(1, 3, write, ("conflict", None))]
            self.assertEqual(world.hosts[0].ended()[2:], expected)
            for command in ((("flush",), ("flush",)) if cut else ()) + (("register", 3),):
                world.play([("begin", 0, 0, command), ("arrive", 0, 0, 0), ("answer", 0, 0, 0)])
            self.assertEqual(world.play([("up", 0, 1), ("arrive", 0, 1, 0), ("arrive", 0, 1, 0)]), [True] * 3)
            self.assertEqual(world.state()["spaces"][3][1], {})

    def test_the_world_goes_on_after_each_cut(self):
        for watched in worlds(8, 200, 10):
            watched.settle()
            opened = Store(flash_from(watched.world.flash.image()))
            self.assertEqual(opened.state, watched.world.state())
            self.assertEqual(live_records(opened.records()), live_records(watched.world.store.records()))
            for host in watched.world.hosts:
                self.assertEqual(host.ended()[-1][2:], (("flush",), ("ok", None)))

    def script(self, start):
        """Acts of two hosts, each one with a namespace, that write so much that blocks are collected."""
        counting = Counting(start)
        commands = [(0, ("flush",)), (1, ("flush",)), (0, ("make", 1, 6)), (1, ("make", 2, 6)), (0, ("register", 1)),
                    (1, ("register", 2))]
        for at in range(100):
            command = a_command(counting, None, 2)
            if at % 6 or command[0] in ("register", "leave", "preempt", "remove"):
                command = ("write", 1 + at % 2, at // 2 % 6, at)
            commands.append((at % 2, command))
        return [act for host, command in commands for act in (
            ("begin", host, 0, command), ("arrive", host, 0, 0), ("answer", host, 0, 0))]

    def operations(self, acts):
        """How many operations the flash makes when the acts are played without a failure."""
        low, high = 0, 1000
        while low < high:
            middle = (low + high) // 2
            world = World(8, 2)
            world.play([("fail", middle), *acts])
            low, high = (middle + 1, high) if world.state() is None else (low, middle)
        return low

    def test_the_power_fails_in_any_operation(self):
        for start in (1, 2):
            acts = self.script(start)
            many = self.operations(acts)
            self.assertGreater(many, 80)
            for count in range(many):
                watched = Watched(unittest.TestCase(), start, 8, 2)
                for act in [("fail", count), *acts]:
                    watched.play(act)
                    if watched.world.state() is None:
                        watched.play(("cut", (count + start) % 3))
                self.assertEqual(len(watched.world.cuts()), 1)
                self.assertEqual(first_fault(watched.world.history(), watched.world.cuts()), ("", -1))


if __name__ == "__main__":
    unittest.main()
