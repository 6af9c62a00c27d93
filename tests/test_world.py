"""Points [61] and [62]: the acts, when an act changes nothing, the history, and the cuts."""

import unittest

from samples import NO_INTEGERS, refuses

from spindlegate.errors import PowerOff
from spindlegate.flash import Flash
from spindlegate.hosts import Host
from spindlegate.state import new_state
from spindlegate.store import Store
from spindlegate.world import World

OK = ("ok", None)
MAKE = ("make", 3, 10)
WRITE = ("write", 3, 5, 50)
FLUSH = ("flush",)


def trip(host, command, path=0):
    """A letter on its way to the subsystem, and its answer on its way back."""
    return [("begin", host, path, command), ("arrive", host, path, 0), ("answer", host, path, 0)]


def played(*commands, hosts=1):
    """A world whose host 0 is connected and has sent these commands."""
    world = World(8, hosts)
    for command in (FLUSH, *commands):
        assert world.play(trip(0, command)) == [True] * 3
    return world


def all_of(world):
    hosts = [(host.session, host.counter, host.state, host.again(), host.ended(), host.lost()) for host in world.hosts]
    return (world.state(), world.history(), world.cuts(), world.flash.image(), hosts, world.store.waiting)


class NewTest(unittest.TestCase):
    def test_a_new_world(self):
        for hosts in range(1, 5):
            world = World(9, hosts)
            self.assertIsInstance(world.flash, Flash)
            self.assertIsInstance(world.store, Store)
            self.assertIs(world.store.flash, world.flash)
            self.assertEqual((world.flash.blocks, world.flash.image()), (9, Flash(9).image()))
            self.assertEqual([host.number for host in world.hosts], list(range(hosts)))
            self.assertTrue(all(isinstance(host, Host) for host in world.hosts))
            self.assertEqual((world.state(), world.history(), world.cuts()), (new_state(), [], []))
            self.assertEqual(world.play([]), [])

    def test_numbers_outside_of_the_bounds(self):
        for hosts in (*NO_INTEGERS, 0, 5, -1):
            self.assertTrue(refuses(World, 8, hosts), hosts)
        for blocks in (*NO_INTEGERS, 7, 25, 0):
            self.assertTrue(refuses(World, blocks, 2), blocks)

    def test_the_acts_that_are_passed_stay(self):
        acts = [*trip(0, FLUSH), *trip(0, MAKE), ("cut", 0)]
        copy = list(acts)
        world = World(8, 1)
        self.assertEqual(world.play(acts), [True] * 7)
        self.assertEqual(acts, copy)


class ActTest(unittest.TestCase):
    """Point [61]: each act, done and not possible."""

    def changes(self, world, act):
        """True if an act says that it changes something; if it does not, nothing has changed."""
        before = all_of(world)
        [changed] = world.play([act])
        self.assertIsInstance(changed, bool)
        if not changed:
            self.assertEqual(all_of(world), before, act)
        return changed

    def test_begin(self):
        world = World(8, 1)
        self.assertTrue(self.changes(world, ("begin", 0, 0, MAKE)))
        self.assertEqual((world.hosts[0].state, world.hosts[0].again()), ("connecting", ("connect", 0, 1)))
        self.assertFalse(self.changes(world, ("begin", 0, 0, MAKE)))
        self.assertEqual(world.play([("arrive", 0, 0, 0), ("arrive", 0, 0, 0), ("answer", 0, 0, 0)]), [True, False, True])
        self.assertEqual(world.hosts[0].state, "idle")
        self.assertTrue(self.changes(world, ("begin", 0, 1, MAKE)))
        self.assertFalse(self.changes(world, ("begin", 0, 1, MAKE)))
        self.assertFalse(self.changes(world, ("arrive", 0, 0, 0)))
        self.assertTrue(self.changes(world, ("arrive", 0, 1, 0)))
        self.assertEqual(world.state()["spaces"], {3: (10, {}, ((), None))})

    def test_again(self):
        world = World(8, 1)
        self.assertFalse(self.changes(world, ("again", 0, 0)))
        world.play([("begin", 0, 0, MAKE)])
        self.assertTrue(self.changes(world, ("again", 0, 0)))
        self.assertTrue(self.changes(world, ("again", 0, 1)))
        self.assertEqual([self.changes(world, ("arrive", 0, path, 0)) for path in (0, 0, 0, 1, 1)],
                         [True, True, False, True, False])
        self.assertEqual(world.history(), [(0, 1, 0, 1, 0, None, ("connect",), OK)])
        world.play([("answer", 0, 1, 0)])
        self.assertFalse(self.changes(world, ("again", 0, 0)))

    def test_arrive_and_answer(self):
        world = World(8, 1)
        for act in (("arrive", 0, 0, 0), ("answer", 0, 0, 0), ("arrive", 0, 1, 5), ("answer", 0, 1, 5)):
            self.assertFalse(self.changes(world, act))
        world.play([("begin", 0, 1, MAKE)])
        self.assertFalse(self.changes(world, ("answer", 0, 1, 0)))
        self.assertTrue(self.changes(world, ("arrive", 0, 1, 0)))
        self.assertEqual((world.hosts[0].state, len(world.history())), ("connecting", 1))
        self.assertFalse(self.changes(world, ("answer", 0, 0, 0)))
        self.assertTrue(self.changes(world, ("answer", 0, 1, 0)))
        self.assertEqual(world.hosts[0].state, "idle")
        self.assertFalse(self.changes(world, ("answer", 0, 1, 0)))

    def test_a_letter_that_the_host_passes_over(self):
        world = World(8, 1)
        world.play([("begin", 0, 0, MAKE), ("again", 0, 0), ("arrive", 0, 0, 0), ("arrive", 0, 0, 0), ("answer", 0, 0, 0)])
        before = all_of(world)
        self.assertEqual(world.play([("answer", 0, 0, 0), ("answer", 0, 0, 0)]), [True, False])
        self.assertEqual(all_of(world), before)

    def test_drop_and_double(self):
        world = World(8, 1)
        for to_host in (False, True):
            self.assertFalse(self.changes(world, ("drop", 0, 0, 0, to_host)))
            self.assertFalse(self.changes(world, ("double", 0, 0, 0, to_host)))
        acts = [("begin", 0, 0, MAKE), ("double", 0, 0, 0, True), ("double", 0, 0, 0, False), ("double", 0, 1, 0, False),
                ("drop", 0, 0, 0, True), ("drop", 0, 0, 1, False), ("arrive", 0, 0, 0), ("arrive", 0, 0, 0),
                ("drop", 0, 0, 0, False), ("double", 0, 0, 0, True), ("drop", 0, 0, 1, True), ("answer", 0, 0, 0),
                ("answer", 0, 0, 0), ("drop", 0, 0, 0, True)]
        due = [True, False, True, False, False, True, True, False, False, True, True, True, False, False]
        self.assertEqual(world.play(acts), due)
        self.assertEqual((world.hosts[0].state, len(world.history())), ("idle", 1))

    def test_up_and_down(self):
        world = World(8, 2)
        self.assertFalse(self.changes(world, ("up", 0, 0)))
        self.assertTrue(self.changes(world, ("down", 0, 0)))
        self.assertFalse(self.changes(world, ("down", 0, 0)))
        for act in (("up", 0, 1), ("up", 1, 0), ("up", 1, 1)):
            self.assertFalse(self.changes(world, act))
        self.assertTrue(self.changes(world, ("begin", 0, 0, MAKE)))
        self.assertFalse(self.changes(world, ("arrive", 0, 0, 0)))
        self.assertTrue(self.changes(world, ("double", 0, 0, 0, False)))
        self.assertTrue(self.changes(world, ("drop", 0, 0, 0, False)))
        self.assertTrue(self.changes(world, ("up", 0, 0)))
        self.assertTrue(self.changes(world, ("arrive", 0, 0, 0)))
        self.assertTrue(self.changes(world, ("down", 0, 0)))
        self.assertFalse(self.changes(world, ("answer", 0, 0, 0)))
        self.assertTrue(self.changes(world, ("up", 0, 0)))
        self.assertTrue(self.changes(world, ("answer", 0, 0, 0)))

    def test_flush(self):
        world = played()
        self.assertEqual((world.store.waiting, world.store.lasting_order()), ([], 1))
        self.assertFalse(self.changes(world, FLUSH))
        world.play(trip(0, MAKE))
        self.assertEqual((len(world.store.waiting), world.store.lasting_order()), (1, 1))
        self.assertTrue(self.changes(world, FLUSH))
        self.assertEqual((world.store.waiting, world.store.lasting_order()), ([], 2))
        self.assertFalse(self.changes(world, FLUSH))

    def test_fail(self):
        world = played(MAKE)
        for count in (0, 5, 100000):
            self.assertTrue(self.changes(world, ("fail", count)))
        self.assertTrue(self.changes(world, ("fail", 1)))
        self.assertEqual(world.play([*trip(0, WRITE), FLUSH]), [True] * 4)
        self.assertIsNone(world.state())
        self.assertTrue(self.changes(world, ("fail", 3)))
        self.assertIsNone(world.state())
        self.assertTrue(refuses(world.play, [("fail", -1)]))

    def test_cut(self):
        for choice in (0, 1, 2):
            world = played(MAKE)
            store, flash = world.store, world.flash
            world.play([("fail", 0)])
            self.assertTrue(self.changes(world, ("cut", choice)))
            # The power was on: what waited is gone, and no power fails any more.
            self.assertIs(world.flash, flash)
            self.assertIsNot(world.store, store)
            self.assertEqual((world.cuts(), world.state()["order"], world.store.waiting), ([1], 1, []))
            self.assertTrue(self.changes(world, ("cut", choice)))
            self.assertEqual(world.cuts(), [1, 1])
        self.assertTrue(refuses(world.play, [("cut", 3)]))
        self.assertEqual(world.cuts(), [1, 1])

    def test_numbers_beyond_the_hosts_the_paths_and_the_letters(self):
        world = World(8, 3)
        self.assertTrue(self.changes(world, ("begin", 4, 7, MAKE)))
        self.assertEqual([host.state for host in world.hosts], ["new", "connecting", "new"])
        self.assertEqual(world.play([("arrive", 1, 0, 0), ("again", 100, 3), ("double", 1, 1, 7, False)]), [False, True, True])
        self.assertEqual(world.play([("arrive", 301, 5, 44)] * 4), [True, True, True, False])
        self.assertEqual(world.play([("answer", 7, 9, 1000)] * 4), [True, True, True, False])
        self.assertEqual([host.state for host in world.hosts], ["new", "idle", "new"])
        self.assertEqual(world.play([("down", 7, 9), ("down", 1, 1), ("up", 1, 3), ("up", 4, 1)]), [True, False, True, False])
        self.assertEqual(world.play([("begin", 1, 1, MAKE), ("drop", 4, 3, 9, False), ("arrive", 1, 1, 0)]),
                         [True, True, False])

    def test_the_hosts_have_paths_of_their_own(self):
        world = World(8, 2)
        world.play([("begin", 0, 0, MAKE)])
        for act in (("arrive", 1, 0, 0), ("arrive", 1, 1, 0), ("arrive", 0, 1, 0)):
            self.assertFalse(self.changes(world, act))
        self.assertTrue(self.changes(world, ("arrive", 0, 0, 0)))
        self.assertFalse(self.changes(world, ("answer", 1, 0, 0)))
        self.assertTrue(self.changes(world, ("answer", 0, 0, 0)))

    def test_any_letter_is_delivered_next(self):
        world = played(MAKE)
        # The letter of the connect comes late, behind that of the next command.
        world.play([("begin", 0, 0, WRITE), ("again", 0, 0), ("arrive", 0, 0, 1), ("answer", 0, 0, 0),
                    ("begin", 0, 0, ("write", 3, 5, 51)), ("arrive", 0, 0, 1)])
        self.assertEqual(world.state()["spaces"][3][1], {5: 51})
        world.play([("arrive", 0, 0, 0), ("answer", 0, 0, 1), ("answer", 0, 0, 0)])
        self.assertEqual(world.state()["spaces"][3][1], {5: 51})
        self.assertEqual([row[3] for row in world.hosts[0].ended()], [OK, OK, OK])


class PowerTest(unittest.TestCase):
    """Point [61]: acts in which the power fails, and what can be done while it is off."""

    def test_a_letter_in_whose_carrying_out_the_power_fails_is_used_up(self):
        world = played(MAKE)
        acts = [("begin", 0, 0, FLUSH), ("again", 0, 0), ("fail", 0), ("arrive", 0, 0, 0)]
        self.assertEqual(world.play(acts), [True] * 4)
        self.assertIsNone(world.state())
        self.assertEqual(world.history()[-1], (0, 2, 0, 1, 2, None, FLUSH, OK))
        # There is no answer, and the other letter stays until the power is back.
        self.assertEqual(world.play([("answer", 0, 0, 0), ("arrive", 0, 0, 0), FLUSH]), [False] * 3)
        self.assertEqual(world.play([("cut", 1), ("arrive", 0, 0, 0), ("arrive", 0, 0, 0)]), [True, True, False])
        self.assertEqual(world.play([("answer", 0, 0, 0)]), [True])
        self.assertEqual((world.hosts[0].state, world.cuts(), world.state()["order"]), ("new", [2], 2))

    def test_the_power_fails_in_a_flush(self):
        for choice, order in ((0, 1), (1, 2), (2, 1)):
            world = played(MAKE)
            world.play([("begin", 0, 0, WRITE), ("fail", 0)])
            self.assertEqual(world.play([FLUSH, FLUSH, ("arrive", 0, 0, 0)]), [True, False, False])
            self.assertIsNone(world.state())
            self.assertEqual(world.play([("cut", choice), FLUSH]), [True, False])
            self.assertEqual((world.cuts(), world.state()["order"]), ([order], order))

    def test_what_changes_something_while_the_power_is_off(self):
        world = played(MAKE)
        world.play([("begin", 0, 0, WRITE), ("again", 0, 1), ("arrive", 0, 1, 0), ("fail", 0), FLUSH])
        self.assertIsNone(world.state())
        acts = [("answer", 0, 1, 0), ("begin", 0, 1, ("read", 3, 5)), ("again", 0, 0), ("double", 0, 0, 0, False),
                ("drop", 0, 0, 0, False), ("down", 0, 0), ("up", 0, 0), ("fail", 2)]
        self.assertEqual(world.play(acts), [True] * 8)
        self.assertEqual(world.play([("arrive", 0, 0, 0), ("arrive", 0, 1, 0), FLUSH]), [False] * 3)
        self.assertEqual(world.play([("cut", 0), ("arrive", 0, 0, 0), ("arrive", 0, 0, 0), ("arrive", 0, 0, 0)]),
                         [True, True, True, False])

    def test_the_state(self):
        world = played(MAKE, WRITE)
        self.assertEqual(world.state(), world.store.state)
        self.assertEqual((world.state()["order"], world.state()["marks"][0]), (3, (1, 2, OK, None)))
        world.play([("fail", 1), FLUSH])
        self.assertIsNone(world.state())
        world.play([("cut", 2)])
        self.assertEqual((world.state()["order"], world.state()["marks"][0]), (2, (1, 1, OK, None)))

    def test_letters_stay_when_the_power_is_cut(self):
        world = played(MAKE)
        self.assertEqual(world.play([("begin", 0, 0, WRITE), ("cut", 0), ("arrive", 0, 0, 0), ("cut", 1), ("answer", 0, 0, 0)]),
                         [True] * 5)
        self.assertEqual(world.hosts[0].state, "new")

    def test_a_read_needs_no_power_of_the_flash(self):
        world = played(MAKE, WRITE)
        world.play([("fail", 0), *trip(0, ("read", 3, 5))])
        self.assertEqual(world.hosts[0].ended()[-1][3], ("ok", 50))
        self.assertIsNotNone(world.state())


class HistoryTest(unittest.TestCase):
    """Point [62]."""

    def test_rows_of_several_runs(self):
        world = played(MAKE, WRITE, hosts=2)
        world.play([*trip(1, FLUSH), *trip(0, ("read", 3, 10)), *trip(0, ("trim", 3, 5)), ("cut", 0)])
        world.play([*trip(0, WRITE), *trip(0, WRITE), *trip(0, ("write", 3, 5, 51)), ("cut", 0), ("cut", 0)])
        world.play([*trip(1, FLUSH), *trip(1, FLUSH)])
        self.assertEqual(world.history(), [
            (0, 1, 0, 1, 0, None, ("connect",), OK),
            (0, 2, 0, 1, 1, None, MAKE, OK),
            (0, 3, 0, 1, 2, None, WRITE, OK),
            (0, 4, 1, 1, 0, None, ("connect",), OK),
            (0, 4, 0, 1, 3, None, ("read", 3, 10), ("place", None)),
            (0, 5, 0, 1, 4, None, ("trim", 3, 5), OK),
            (1, 5, 0, 2, 0, None, ("connect",), ("ok", (1, 2, OK))),
            (1, 6, 0, 2, 1, None, ("write", 3, 5, 51), OK),
            (3, 6, 1, 2, 0, None, ("connect",), OK),
        ])
        self.assertEqual(world.cuts(), [4, 5, 5])
        self.assertEqual(world.hosts[0].lost(), [(1, 3), (1, 4), (1, 5)])
        self.assertEqual(world.hosts[0].ended()[2:5], [(1, 3, ("read", 3, 10), ("place", None)),
                                                       (1, 4, ("trim", 3, 5), OK), (1, 5, WRITE, ("lost", None))])
        # The first letter of host 1 was lost, as its session was not open any more.
        self.assertEqual((world.hosts[1].ended(), world.hosts[1].lost()), ([(1, 1, FLUSH, ("lost", None))], [(1, 1)]))

    def test_a_row_whose_answer_was_never_sent(self):
        for command in (("register", 3), FLUSH):
            world = played(MAKE)
            world.play([("begin", 0, 0, command), ("fail", 0), ("arrive", 0, 0, 0)])
            self.assertEqual(world.history()[-1][:7], (0, 2 if command == FLUSH else 3, 0, 1, 2, None, command))
            world.play([("cut", 0)])
            self.assertEqual(world.history()[-1][:7], (0, 2 if command == FLUSH else 3, 0, 1, 2, None, command))

    def test_a_command_that_was_not_carried_out_has_no_row(self):
        writes = [("write", 3, place, 1) for place in range(8)]
        world = played(*[MAKE, FLUSH, *writes])
        rows = world.history()
        self.assertEqual(len(world.store.waiting), 8)
        self.assertEqual(world.play([("begin", 0, 0, WRITE), ("fail", 7), ("arrive", 0, 0, 0)]), [True] * 3)
        self.assertEqual((world.history(), world.state()), (rows, None))
        world.play([("cut", 0)])
        self.assertEqual((world.history(), world.cuts()), (rows, [9]))

    def test_keys_are_in_the_rows(self):
        world = played(MAKE, ("register", 3), WRITE)
        self.assertEqual([row[5] for row in world.history()], [None, None, None, 3])

    def test_returned_lists_are_not_changed_later(self):
        world = played(MAKE)
        world.play([("cut", 0)])
        history, cuts = world.history(), world.cuts()
        copies = (list(history), list(cuts))
        world.play([*trip(0, WRITE), *trip(0, WRITE), ("cut", 0)])
        self.assertEqual((history, cuts), copies)
        history.clear()
        cuts.clear()
        self.assertEqual((len(world.history()), len(world.cuts())), (3, 2))

    def test_power_off_outside_of_acts(self):
        world = played(MAKE)
        world.flash.fail_after(0)
        with self.assertRaises(PowerOff):
            world.flash.erase(7)
        self.assertIsNone(world.state())
        self.assertEqual(world.play([("begin", 0, 0, WRITE), ("arrive", 0, 0, 0), FLUSH]), [True, False, False])


if __name__ == "__main__":
    unittest.main()
