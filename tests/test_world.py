"""Point 17: worlds, their events and what they tell."""

import unittest

from leasefiles.disks import Disk, lines, noted, opened
from leasefiles.errors import NoClient, NoEvent, NoMachine, NoNumber
from leasefiles.world import World
from tests.parts import WRONG
from tests.samples import all_values, package_objects
from tests.worlds import after, areas, client_state, delivered, done, leased, state, ticked

NO_INTEGERS = [-1, True, False, "0", "1", (1,), [1], {}, 1000]
NO_OPERATIONS = [None, (), ("look",), ("look", "A"), ("look", "a", "b"), ["look", "a"], ("names", None), "names",
                 ("lease", "a", "wide"), ("lease", "a"), ("write", "a", ("put", None)), ("write", ("put", "x")),
                 ("hold", "a", ["remove"]), ("flush", 1), ("refresh", ()), ("cache",), ("begin", "a"), (("names",),)]
LOOK = ("look", "a")
PUT = ("write", "a", ("put", "x"))


def busy_world():
    """Client 1 looks, 2 is idle and has a lease, 3 is down; the bag has letters for the server, 1, 3."""
    world = after(leased(3, "read"), ("fall", 1), ("rise", 1))
    world = done(world, 2, ("lease", "a", "read"))
    after(world, ("do", 3, ("names",)), ("come", 0), ("fall", 3), ("do", 1, ("write", "b", ("put", "x"))), ("come", 1))
    after(world, ("fall", 1), ("rise", 1), ("do", 1, LOOK))
    assert [letter[0] for letter in world.bag()] == [3, 1, "server"]
    return world


# Events that are possible in the busy world, and for each of their parts what makes them impossible.
NO_CLIENTS = NO_INTEGERS + [0, 3, 4, 9, 10, None]
NO_MACHINES = NO_INTEGERS + [3, 4, 9, 10, None]
NO_LETTERS = NO_INTEGERS + [3, 4, None]
POSSIBLE = [
    (("do", 2, LOOK), [NO_CLIENTS + [1], NO_OPERATIONS]),
    (("do", 2, PUT), [NO_CLIENTS + [1], NO_OPERATIONS]),
    (("again", 1), [NO_CLIENTS]),
    (("again", 2), [NO_CLIENTS]),
    (("quick", 1, "a"), [NO_CLIENTS, WRONG["name"]]),
    (("quick", 2, "abcdefgh"), [NO_CLIENTS, WRONG["name"]]),
    (("come", 0), [NO_LETTERS]),
    (("come", 2), [NO_LETTERS]),
    (("double", 0), [NO_LETTERS]),
    (("double", 2), [NO_LETTERS]),
    (("lose", 0), [NO_LETTERS]),
    (("lose", 2), [NO_LETTERS]),
    (("cut", 1, 0), [NO_LETTERS + [0], NO_INTEGERS[:-1] + [None]]),
    (("cut", 2, 7), [NO_LETTERS + [0], NO_INTEGERS[:-1] + [None]]),
    (("break", 2, PUT, 10 ** 29), [NO_CLIENTS + [1], NO_OPERATIONS, NO_INTEGERS[:-1] + [None]]),
    (("break", 2, ("flush",), 0), [NO_CLIENTS + [1], NO_OPERATIONS, NO_INTEGERS[:-1] + [None]]),
    (("fall", 0), [NO_MACHINES]),
    (("fall", 1), [NO_MACHINES]),
    (("rise", 3), [NO_INTEGERS + [0, 1, 2, 4, 9, 10, None]]),
    (("compact", 0, None), [NO_MACHINES, NO_INTEGERS[:-1]]),
    (("compact", 2, 5), [NO_MACHINES, NO_INTEGERS[:-1]]),
    (("tick", 0), [NO_MACHINES]),
    (("tick", 1), [NO_MACHINES]),
]


class Beginnings(unittest.TestCase):
    def test_each_number_of_clients(self):
        for clients in range(1, 10):
            world = World(clients)
            self.assertEqual(world.up(), [True] * (clients + 1))
            self.assertEqual(world.table(), (0, (), (), (), ()))
            for c in range(1, clients + 1):
                self.assertEqual(world.sheet(c), (0, 0, ()))
                self.assertEqual(client_state(world.client(c))[:3], ((0, 0, ()), None, None))
            fresh = Disk()
            opened(fresh)
            for m in range(clients + 1):
                self.assertEqual(areas(world.disk(m)), areas(fresh))
            for told in (world.bag(), world.history(), world.events(), world.moments(), world.deeds()):
                self.assertEqual(told, [])
            self.assertEqual((world.fates(), world.lives()), ({}, {}))

    def test_no_numbers(self):
        for clients in [0, 10, -1, True, False, None, "1", (1,), [2], 10 ** 29] + package_objects():
            with self.assertRaises(NoNumber) as caught:
                World(clients)
            self.assertIs(type(caught.exception), NoNumber)
        for clients in all_values():
            if clients not in (1, 5) or clients is True:
                self.assertRaises(NoNumber, World, clients)

    def test_each_method_is_of_the_class_itself(self):
        for name in ("event bag history events moments deeds table sheet client disk up fates lives settle copy").split():
            self.assertIn(name, vars(World))


class Refused(unittest.TestCase):
    def assert_refused(self, world, event):
        before = state(world)
        with self.assertRaises(NoEvent, msg=event) as caught:
            world.event(event)
        self.assertIs(type(caught.exception), NoEvent)
        self.assertEqual(state(world), before)

    def test_possible_events_happen(self):
        world = busy_world()
        before = state(world)
        for event, _ in POSSIBLE:
            twin = world.copy()
            self.assertIsNone(twin.event(event))
            self.assertEqual(twin.events(), world.events() + [event])
            self.assertEqual(state(world), before)

    def test_each_part_wrong(self):
        world = busy_world()
        for event, choices in POSSIBLE:
            self.assertEqual(len(event), len(choices) + 1)
            for k, wrong in enumerate(choices, start=1):
                for part in wrong + package_objects():
                    self.assert_refused(world, event[:k] + (part,) + event[k + 1:])

    def test_parts_more_and_less_and_lists(self):
        world = busy_world()
        for event, _ in POSSIBLE:
            for thing in [event + (0,), event + (None,), event[:-1], event[:1], list(event), (event,), event[1:],
                          ("do",) + event, (event[0].upper(),) + event[1:], (event[0] + " ",) + event[1:]]:
                self.assert_refused(world, thing)

    def test_other_values(self):
        for thing in all_values() + [(), None, "tick", ("",), (1, 2), ({}, 1), (["tick"], 0), ("settle", 5), ("copy",)]:
            self.assert_refused(World(2), thing)

    def test_events_of_two_words_are_told_apart(self):
        self.assert_refused(busy_world(), ("compact", 0))
        self.assert_refused(busy_world(), ("cut", 1))
        self.assert_refused(busy_world(), ("come", 1, 0))
        self.assert_refused(busy_world(), ("fall", 1, 0))
        self.assert_refused(busy_world(), ("quick", 1))

    def test_an_operation_while_one_runs(self):
        world = after(World(1), ("do", 1, LOOK))
        for event in [("do", 1, LOOK), ("do", 1, ("flush",)), ("break", 1, PUT, 0)]:
            self.assert_refused(world, event)
        delivered(world)
        after(world, ("do", 1, LOOK))

    def test_falls_and_rises_twice(self):
        for m in (0, 1, 2):
            world = World(2)
            self.assert_refused(world, ("rise", m))
            after(world, ("fall", m))
            for event in [("fall", m), ("compact", m, None), ("compact", m, 0), ("tick", m)]:
                self.assert_refused(world, event)
            after(world, ("rise", m))
            self.assert_refused(world, ("rise", m))

    def test_integers_that_no_line_can_hold(self):
        for event in [("cut", 0, 10 ** 30), ("compact", 0, 10 ** 30), ("do", 2, ("write", "a", ("splice", 10 ** 30, 0, "")))]:
            self.assert_refused(busy_world(), event)
        after(World(1), ("do", 1, ("write", "a", ("splice", 10 ** 30 - 1, 0, ""))))


class Operations(unittest.TestCase):
    def test_a_look_from_begin_to_end(self):
        world = after(World(2), ("do", 1, LOOK))
        self.assertEqual(world.history(), [("begin", 1, LOOK)])
        self.assertEqual(world.bag(), [("server", 1, (0, 1), "look", ("a",))])
        after(world, ("come", 0))
        self.assertEqual(world.bag(), [(1, "server", (0, 1), "told", ("a", (0, 0, 0), None))])
        after(world, ("tick", 2), ("come", 0))
        self.assertEqual(world.history(), [("begin", 1, LOOK), ("end", 1, LOOK, ("looked", (0, 0, 0), None))])
        self.assertEqual(world.moments(), [0, 3])
        self.assertEqual(world.events(), [("do", 1, LOOK), ("come", 0), ("tick", 2), ("come", 0)])
        self.assertEqual((world.bag(), world.deeds()), ([], []))
        self.assertIsNone(world.client(1).running())

    def test_a_write_from_begin_to_end(self):
        world = after(World(2), ("tick", 0), ("do", 2, PUT))
        self.assertEqual(world.sheet(2), (0, 1, ((1, "a", None, ("put", "x")),)))
        self.assertEqual(world.fates(), {(2, 1): "pending"})
        after(world, ("come", 0), ("come", 0))
        result = ("written", "applied", (1, 2, 1))
        self.assertEqual(world.history(), [("begin", 2, PUT), ("end", 2, PUT, result)])
        self.assertEqual(world.moments(), [1, 3])
        self.assertEqual(world.deeds(), [
            (0, 0, ("tick",)), (1, 2, ("write", "a", None, ("put", "x"))),
            (2, 0, ("apply", 2, 1, "a", (1, 2, 1), "x")), (3, 2, ("settled", 1)),
        ])
        self.assertEqual(world.table(), (1, (("a", (1, 2, 1), "x"),), (), ((2, 1, "applied", (1, 2, 1)),), ()))
        self.assertEqual(world.sheet(2), (0, 1, ()))

    def test_operations_that_end_at_once(self):
        hold = ("hold", "a", ("put", "x"))
        world = after(World(1), ("do", 1, hold), ("do", 1, ("flush",)))
        self.assertEqual(world.history(), [("begin", 1, hold), ("end", 1, hold, ("refused",)), ("begin", 1, ("flush",)),
                                           ("end", 1, ("flush",), ("flushed",))])
        self.assertEqual(world.moments(), [0, 0, 1, 1])
        world = after(leased(), ("do", 1, hold))
        self.assertEqual(world.history()[-2:], [("begin", 1, hold), ("end", 1, hold, ("held", 1, (1, 1, 1)))])
        self.assertEqual(world.moments()[-2:], [3, 3])
        self.assertEqual(world.bag(), [("server", 1, (0, 0), "do", (1, "a", (0, 0, 0), ("put", "x")))])

    def test_two_operations_at_once_end_each_by_its_letter(self):
        world = after(World(2), ("do", 1, LOOK), ("do", 2, ("names",)), ("come", 1), ("come", 0))
        after(world, ("come", 0))
        self.assertEqual(world.history()[-1], ("end", 2, ("names",), ("names", ())))
        after(world, ("come", 0))
        self.assertEqual(world.history()[-1], ("end", 1, LOOK, ("looked", (0, 0, 0), None)))

    def test_a_flush_ends_when_the_last_write_is_settled(self):
        hold = ("hold", "a", ("splice", 0, 0, "h"))
        world = after(leased(), ("do", 1, ("hold", "a", ("put", "x"))), ("do", 1, hold), ("do", 1, ("flush",)))
        self.assertEqual(world.client(1).running(), ("flush",))
        after(world, ("come", 0), ("come", 0))
        self.assertEqual(world.client(1).running(), ("flush",))
        after(world, ("come", 0), ("come", 0))
        self.assertEqual(world.history()[-1], ("end", 1, ("flush",), ("flushed",)))
        self.assertEqual(world.table()[1], (("a", (2, 1, 2), "hx"),))

    def test_again(self):
        world = after(World(2), ("do", 1, LOOK), ("again", 1), ("again", 2), ("again", 1))
        self.assertEqual(world.bag(), [("server", 1, (0, 1), "look", ("a",))] * 3)
        self.assertEqual(world.history(), [("begin", 1, LOOK)])
        self.assertEqual(len(world.events()), 4)

    def test_quick(self):
        world = after(leased(), ("quick", 1, "a"), ("quick", 2, "a"), ("quick", 1, "b"))
        self.assertEqual(world.history()[-3:], [("quick", 1, "a", ((0, 0, 0), None)), ("quick", 2, "a", None),
                                                ("quick", 1, "b", None)])
        self.assertEqual(world.moments()[-3:], [3, 4, 5])
        after(world, ("do", 1, ("hold", "a", ("put", "x"))), ("quick", 1, "a"))
        self.assertEqual(world.history()[-1], ("quick", 1, "a", ((1, 1, 1), "x")))
        after(world, ("tick", 1), ("tick", 1), ("quick", 1, "a"), ("tick", 1), ("quick", 1, "a"))
        self.assertEqual([item[3] for item in world.history()[-2:]], [((1, 1, 1), "x"), None])


class Letters(unittest.TestCase):
    def test_letters_come_in_any_order_and_answers_go_to_the_end(self):
        world = after(World(3), *[("do", c, ("names",)) for c in (1, 2, 3)])
        after(world, ("come", 1))
        self.assertEqual([letter[:2] for letter in world.bag()], [("server", 1), ("server", 3), (2, "server")])
        after(world, ("come", 0))
        self.assertEqual([letter[:2] for letter in world.bag()], [("server", 3), (2, "server"), (1, "server")])

    def test_recalls_stand_behind_busy_in_order(self):
        world = done(leased(3, "read"), 2, ("lease", "a", "read"))
        after(world, ("do", 3, ("write", "a", ("put", "x"))), ("come", 0))
        self.assertEqual([(letter[0], letter[3]) for letter in world.bag()], [(3, "busy"), (1, "recall"), (2, "recall")])

    def test_double(self):
        world = after(World(1), ("do", 1, PUT), ("double", 0), ("double", 0))
        answer = (1, "server", (0, 0), "done", (1, "applied", (1, 1, 1)))
        self.assertEqual([letter[3] for letter in world.bag()], ["do", "done", "done"])
        self.assertEqual(world.bag()[1:], [answer, answer])
        self.assertEqual([deed[0] for _, _, deed in world.deeds()], ["write", "apply"])
        after(world, ("double", 1))
        self.assertEqual(world.history()[-1], ("end", 1, PUT, ("written", "applied", (1, 1, 1))))
        after(world, ("double", 1), ("come", 2))
        self.assertEqual(world.bag(), [("server", 1, (0, 0), "do", (1, "a", None, ("put", "x"))), answer])
        self.assertEqual(len(world.history()), 2)

    def test_lose(self):
        world = after(World(2), ("do", 1, LOOK), ("do", 2, ("names",)), ("lose", 0))
        self.assertEqual([letter[3] for letter in world.bag()], ["names"])
        self.assertEqual(len(world.history()), 2)
        after(world, ("lose", 0))
        self.assertEqual(world.bag(), [])
        self.assertEqual(world.client(1).running(), LOOK)

    def test_letters_to_machines_that_are_down(self):
        world = after(World(2), ("do", 1, PUT), ("fall", 0), ("double", 0))
        self.assertEqual(len(world.bag()), 1)
        after(world, ("come", 0))
        self.assertEqual((world.bag(), world.table()), ([], (0, (), (), (), ())))
        after(world, ("rise", 0), ("again", 1), ("come", 0), ("fall", 1), ("double", 0), ("come", 0))
        self.assertEqual(world.bag(), [])
        self.assertEqual(world.sheet(1), (0, 1, ((1, "a", None, ("put", "x")),)))
        after(world, ("do", 2, LOOK), ("fall", 2), ("lose", 0))
        self.assertEqual(world.bag(), [])

    def test_a_letter_of_an_elder_life_changes_nothing(self):
        world = after(World(1), ("do", 1, LOOK), ("come", 0), ("fall", 1), ("rise", 1), ("do", 1, LOOK), ("come", 0))
        self.assertEqual(world.client(1).running(), LOOK)
        self.assertEqual(world.bag(), [("server", 1, (1, 1), "look", ("a",))])
        delivered(world)
        self.assertIsNone(world.client(1).running())


class Clocks(unittest.TestCase):
    def assert_server_ticks(self, world, many):
        """The server may tick so many times more, and no further."""
        twin = world.copy()
        for _ in range(many):
            twin.event(("tick", 0))
        self.assertRaises(NoEvent, twin.event, ("tick", 0))

    def test_twice_between_two_ticks_of_each_client(self):
        world = World(2)
        self.assert_server_ticks(world, 2)
        after(world, ("tick", 0))
        self.assert_server_ticks(world, 1)
        after(world, ("tick", 0))
        self.assert_server_ticks(world, 0)
        after(world, ("tick", 1), ("tick", 1))
        self.assert_server_ticks(world, 0)
        after(world, ("tick", 2))
        self.assert_server_ticks(world, 2)
        after(world, ("tick", 0), ("tick", 1))
        self.assert_server_ticks(world, 1)
        self.assertEqual(world.table()[0], 3)

    def test_clients_that_are_down_see_nothing(self):
        world = after(World(2), ("tick", 0), ("tick", 0), ("fall", 2))
        self.assert_server_ticks(world, 0)
        after(world, ("tick", 1))
        self.assert_server_ticks(world, 2)
        after(world, ("tick", 0), ("fall", 1))
        for _ in range(9):
            world.event(("tick", 0))
        after(world, ("rise", 2))
        self.assert_server_ticks(world, 2)
        after(world, ("tick", 0), ("rise", 1))
        self.assert_server_ticks(world, 1)
        after(world, ("tick", 0))
        self.assert_server_ticks(world, 0)
        after(world, ("tick", 2))
        self.assert_server_ticks(world, 1)
        after(world, ("fall", 1), ("rise", 1))
        self.assert_server_ticks(world, 2)

    def test_nothing_else_lets_the_server_tick(self):
        world = after(leased(), ("tick", 0), ("tick", 0))
        for event in [("do", 1, LOOK), ("again", 1), ("double", 0), ("come", 0), ("lose", 0), ("quick", 1, "a"),
                      ("fall", 0), ("rise", 0), ("compact", 1, None), ("compact", 0, None)]:
            after(world, event)
            self.assert_server_ticks(world, 0)

    def test_a_client_may_always_tick(self):
        world = World(2)
        for _ in range(20):
            after(world, ("tick", 1))
        self.assertEqual((world.history(), world.deeds()), ([], []))
        self.assertEqual(len(world.events()), 20)

    def test_leases_end_by_the_clock(self):
        world = leased()
        self.assertEqual(world.table()[2], (("a", 1, "write", (0, 1), 8),))
        ticked(world, 7)
        self.assertEqual(world.table()[:3], (7, (), (("a", 1, "write", (0, 1), 8),)))
        ticked(world, 1)
        self.assertEqual(world.table(), (8, (), (), (), ()))
        self.assertEqual([deed for _, _, deed in world.deeds()][1:], [("tick",)] * 8)


class Falls(unittest.TestCase):
    def test_the_server_falls_and_rises(self):
        world = ticked(leased(), 3)
        table = world.table()
        after(world, ("fall", 0))
        self.assertEqual((world.up(), world.table()), ([False, True, True], table))
        after(world, ("rise", 0))
        self.assertEqual((world.up(), world.deeds()[-1]), ([True] * 3, (13, 0, ("rise",))))
        self.assertEqual(world.table()[2], (("a", 1, "write", (0, 1), 11),))
        self.assertEqual(world.history()[-2:], [("fall", 0), ("rise", 0)])
        self.assertEqual(world.moments()[-2:], [12, 13])
        self.assertEqual(lines(world.disk(0).area(0))[-1], ("item", ("rise",)))

    def test_a_client_falls_and_rises(self):
        world = after(leased(), ("do", 1, ("hold", "a", ("put", "x"))), ("do", 1, LOOK), ("fall", 1))
        self.assertEqual(world.up(), [True, False, True])
        self.assertEqual(world.sheet(1), (0, 1, ((1, "a", (0, 0, 0), ("put", "x")),)))
        self.assertRaises(NoClient, world.client, 1)
        bag = world.bag()
        after(world, ("rise", 1))
        self.assertEqual(world.sheet(1), (1, 1, ((1, "a", (0, 0, 0), ("put", "x")),)))
        self.assertEqual(world.bag(), bag)
        client = world.client(1)
        self.assertEqual((client.running(), client.result(), client.quick("a"), client.cache()), (None, None, None, ()))
        self.assertEqual(world.history()[-2:], [("fall", 1), ("rise", 1)])
        self.assertEqual(world.deeds()[-1], (6, 1, ("boot",)))
        after(world, ("again", 1), ("do", 1, ("names",)))
        self.assertEqual([letter[2:4] for letter in world.bag()[-2:]], [((1, 0), "do"), ((1, 1), "names")])

    def test_a_torn_disk_is_mended_at_the_rise_alone(self):
        world = after(World(1), ("break", 1, PUT, 9))
        torn = world.disk(1).area(0)
        self.assertFalse(torn.endswith("\n"))
        after(world, ("rise", 1))
        whole = torn[:-9]
        self.assertEqual(world.disk(1).area(0)[:len(whole)], whole)
        self.assertEqual(lines(world.disk(1).area(0)), lines(whole) + [("item", ("boot",))])


class Told(unittest.TestCase):
    def test_no_clients_and_no_machines(self):
        world = after(World(3), ("fall", 2))
        for c in [0, 4, 9, 10, -1, True, None, "1", (1,), [1], 10 ** 29] + package_objects():
            for method in (world.sheet, world.client):
                with self.assertRaises(NoClient) as caught:
                    method(c)
                self.assertIs(type(caught.exception), NoClient)
        self.assertRaises(NoClient, world.client, 2)
        self.assertEqual(world.sheet(2), (0, 0, ()))
        for m in [4, 9, -1, True, False, None, "1", (1,), [1], 10 ** 29] + package_objects():
            with self.assertRaises(NoMachine) as caught:
                world.disk(m)
            self.assertIs(type(caught.exception), NoMachine)

    def test_what_is_told_can_be_changed_without_changing_the_world(self):
        world = busy_world()
        before = state(world)
        for told in (world.bag, world.history, world.events, world.deeds, world.moments, world.up):
            changed = told()
            changed.append(None)
            changed.reverse()
            self.assertEqual(told(), changed[:0:-1])
        world.fates()[(1, 1)] = "lost"
        lives = world.lives()
        lives["b"].append(None)
        lives["z"] = []
        world.client(2).begin(("look", "b"))
        world.client(1).tick()
        world.disk(0).append(0, "torn", None)
        noted(world.disk(2), ("boot",), None)
        opened(world.disk(3))
        self.assertEqual(state(world), before)

    def test_a_copy_goes_on_apart(self):
        world = busy_world()
        before = state(world)
        twin = world.copy()
        self.assertEqual(state(twin), before)
        for event, _ in POSSIBLE:
            other = twin.copy()
            other.event(event)
            self.assertEqual(other.settle(20000), len(other.events()) - len(twin.events()) - 1)
            self.assertEqual(state(twin), before)
            # And the other way round: the copy stays where the first one goes on.
            kept = other.copy()
            told = state(other)
            after(other, ("fall", 0), ("rise", 0), ("tick", 1))
            self.assertEqual(state(kept), told)
        self.assertEqual(state(world), before)

    def test_a_copy_lets_the_same_events(self):
        world = after(World(2), ("tick", 0), ("tick", 0)).copy()
        self.assertRaises(NoEvent, world.event, ("tick", 0))

    def test_equal_runs_are_equal(self):
        for event, _ in POSSIBLE:
            self.assertEqual(state(after(busy_world(), event)), state(after(busy_world(), event)))


if __name__ == "__main__":
    unittest.main()
