"""Point 20: watching worlds."""

import random
import unittest

from leasefiles.clients import Client
from leasefiles.watch import complaints, owed, trusted
from leasefiles.world import World
from tests.drawn import drawn_run
from tests.worlds import after, delivered, done, estranged, leased, state, ticked

PUT = ("write", "a", ("put", "x"))


class Staged:
    """What a world tells of itself, with any table and any clients."""

    def __init__(self, table, clients, down=()):
        self._table = table
        self._clients = clients
        self._down = down

    def up(self):
        return [True] + [client is not None for client in self._clients]

    def table(self):
        return self._table

    def sheet(self, c):
        client = self._clients[c - 1]
        return self._down[c - 1] if client is None else client.sheet()

    def client(self, c):
        return self._clients[c - 1].copy()


def viewing(c, views, sheet=(0, 0, ())):
    """A client with trusted views (name, kind, stamp, text)."""
    client = Client(c, sheet)
    for name, kind, stamp, text in views:
        talk = client.begin(("lease", name, kind))[1][0][2]
        client.take((c, "server", talk, "granted", (name, kind, stamp, text)))
    return client


def table_with(files=(), leases=(), done_rows=(), clock=0):
    return (clock, tuple(files), tuple(leases), tuple(done_rows), ())


FILE = ("a", (1, 1, 1), "x")
VIEW = ("a", "read", (1, 1, 1), "x")
LEASE = ("a", 1, "read", (0, 1), 8)


class Trusted(unittest.TestCase):
    def test_no_views(self):
        for world in (World(1), World(9), done(World(2), 1, PUT), estranged()):
            self.assertEqual(trusted(world), ())

    def test_views_of_both_kinds(self):
        world = done(leased(3), 2, ("lease", "b", "read"))
        done(world, 1, ("lease", "b", "read"))
        self.assertEqual(trusted(world), ((1, "a", "write", (0, 0, 0), None), (1, "b", "read", (0, 0, 0), None),
                                          (2, "b", "read", (0, 0, 0), None)))

    def test_held_writes_show(self):
        world = after(leased(), ("do", 1, ("hold", "a", ("put", "h"))))
        self.assertEqual(trusted(world), ((1, "a", "write", (1, 1, 1), "h"),))
        after(world, ("do", 1, ("hold", "a", ("splice", 0, 0, "i"))))
        self.assertEqual(trusted(delivered(world)), ((1, "a", "write", (2, 1, 2), "ih"),))

    def test_just_trusted_and_just_no_more(self):
        world = leased()
        for ticks, told in [(1, 1), (2, 1), (3, 0), (4, 0)]:
            after(world, ("tick", 1))
            self.assertEqual(len(trusted(world)), told, ticks)
        done(world, 1, ("lease", "a", "read"))
        self.assertEqual(trusted(world), ((1, "a", "read", (0, 0, 0), None),))

    def test_clients_that_are_down(self):
        world = done(leased(), 2, ("lease", "b", "write"))
        after(world, ("fall", 1))
        self.assertEqual(trusted(world), ((2, "b", "write", (0, 0, 0), None),))
        after(world, ("rise", 1), ("fall", 0))
        self.assertEqual(trusted(world), ((2, "b", "write", (0, 0, 0), None),))

    def test_views_that_ended(self):
        world = after(leased(), ("do", 2, ("look", "a")), ("come", 0))
        self.assertEqual([letter[3] for letter in world.bag()], ["busy", "recall"])
        after(world, ("come", 1))
        self.assertEqual(trusted(world), ())
        self.assertEqual(trusted(after(leased(), ("do", 1, PUT))), ())
        self.assertEqual(trusted(after(leased(), ("do", 1, ("give", "a")))), ())
        self.assertEqual(trusted(after(leased(), ("do", 1, ("lease", "a", "write")))), ())

    def test_of_drawn_runs(self):
        many = 0
        for seed in range(20):
            for world in drawn_run(random.Random(seed), 3, 100, 0.1):
                views = trusted(world)
                self.assertEqual(list(views), sorted(views))
                told = [(c, name) for c, up in enumerate(world.up()) if c and up for name in "abc"
                        if world.client(c).quick(name) is not None]
                self.assertEqual([view[:2] for view in views], told)
                for view in views:
                    self.assertEqual(world.client(view[0]).quick(view[1]), view[3:])
                many += len(views)
        self.assertGreater(many, 200)


class Complaints(unittest.TestCase):
    def assert_complaints(self, world, *told):
        self.assertEqual(complaints(world), told)

    def test_nothing_is_wrong(self):
        self.assert_complaints(Staged(table_with([FILE], [LEASE]), [viewing(1, [VIEW])]))
        self.assert_complaints(Staged(table_with(), [Client(1, (0, 0, ())), None], (None, (3, 4, ()))))

    def test_a_view_without_a_lease_of_its_kind_in_force(self):
        for lease in [None, ("a", 2, "read", (0, 1), 8), ("b", 1, "read", (0, 1), 8), ("a", 1, "write", (0, 1), 8),
                      ("a", 1, "read", (0, 1), 5), ("a", 1, "read", (0, 1), 0)]:
            table = table_with([FILE], [lease] if lease else [], clock=5)
            self.assert_complaints(Staged(table, [viewing(1, [VIEW])]), ("lease", 1, "a"))
        table = table_with([FILE], [("a", 1, "read", (0, 1), 6)], clock=5)
        self.assert_complaints(Staged(table, [viewing(1, [VIEW])]))
        table = table_with([FILE], [LEASE])
        self.assert_complaints(Staged(table, [viewing(1, [("a", "write") + VIEW[2:]])]), ("lease", 1, "a"))

    def test_a_view_that_is_trusted_no_more_does_no_harm(self):
        client = viewing(1, [VIEW])
        for _ in range(3):
            client.tick()
        self.assert_complaints(Staged(table_with([FILE]), [client]))

    def test_two_views_of_one_name(self):
        for kind, other, wrong in [("read", "read", False), ("read", "write", True), ("write", "read", True),
                                   ("write", "write", True)]:
            leases = [("a", 1, kind, (0, 1), 8), ("a", 3, other, (0, 1), 8)]
            clients = [viewing(1, [("a", kind) + VIEW[2:]]), Client(2, (0, 0, ())), viewing(3, [("a", other) + VIEW[2:]])]
            told = [("two", 1, 3, "a")] if wrong else []
            self.assert_complaints(Staged(table_with([FILE], leases), clients), *told)

    def test_three_views_of_one_name(self):
        leases = [("a", c, kind, (0, 1), 8) for c, kind in [(1, "read"), (2, "write"), (3, "read")]]
        clients = [viewing(lease[1], [("a", lease[2]) + VIEW[2:]]) for lease in leases]
        self.assert_complaints(Staged(table_with([FILE], leases), clients), ("two", 1, 2, "a"), ("two", 2, 3, "a"))

    def test_a_view_that_tells_another_text(self):
        for view in [("a", "read", (1, 1, 1), "y"), ("a", "read", (1, 1, 2), "x"), ("a", "read", (0, 0, 0), None),
                     ("a", "read", (1, 1, 1), None)]:
            self.assert_complaints(Staged(table_with([FILE], [LEASE]), [viewing(1, [view])]), ("text", 1, "a"))
        self.assert_complaints(Staged(table_with([], [LEASE]), [viewing(1, [VIEW])]), ("text", 1, "a"))

    def holding(self):
        """A client that held two writes at a, and one at b between them."""
        views = [("a", "write", (0, 0, 0), None), ("b", "write", (0, 0, 0), None)]
        client = viewing(1, views)
        for name, edit in [("a", ("put", "x")), ("b", ("put", "y")), ("a", ("splice", 1, 0, "z"))]:
            client.begin(("hold", name, edit))
        return client

    def test_with_writes_that_are_pending(self):
        leases = [("a", 1, "write", (0, 1), 8), ("b", 1, "write", (0, 1), 8)]
        x, xz, y = ("a", (1, 1, 1), "x"), ("a", (2, 1, 3), "xz"), ("b", (1, 1, 2), "y")
        # The client has heard of none of what the server did.
        for files, number in [([], 0), ([x], 1), ([x, y], 2), ([xz, y], 3)]:
            rows = [(1, number, "applied", (1, 1, 1))] if number else []
            told = [("number", 1)] if number > 1 else []
            self.assert_complaints(Staged(table_with(files, leases, rows), [self.holding()]), *told)
        self.assert_complaints(Staged(table_with([x], leases), [self.holding()]), ("text", 1, "a"))
        # A file that another one changed, so that the second write can't be done on it, or makes another text.
        self.assert_complaints(Staged(table_with([("a", (5, 2, 9), "")], leases, [(1, 1, "unfit", (0, 0, 0))]),
                                      [self.holding()]), ("text", 1, "a"))
        self.assert_complaints(Staged(table_with([("a", (1, 1, 1), "q")], leases, [(1, 1, "applied", (1, 1, 1))]),
                                      [self.holding()]), ("text", 1, "a"))

    def test_pending_writes_that_can_not_be_done(self):
        for edit in [("take", "b"), ("adopt", 1, 1), ("drop", 2, 1), ("splice", 9, 0, ""), ("splice", 0, 0, "x" * 96)]:
            staged = Staged(table_with([FILE], [LEASE]), [viewing(1, [VIEW])])
            staged.sheet = lambda c: (0, 1, ((1, "a", None, edit),))
            self.assert_complaints(staged, ("text", 1, "a"))
            staged.sheet = lambda c: (0, 1, ((1, "b", None, edit),))
            self.assert_complaints(staged)

    def test_numbers_that_do_not_go_on(self):
        pending = ((4, "b", None, ("remove",)), (5, "b", None, ("remove",)))
        for number, wrong in [(None, True), (1, True), (2, True), (3, False), (4, False), (5, True), (9, True)]:
            rows = [(2, number, "unfit", (0, 0, 0))] if number else []
            told = [("number", 2)] if wrong else []
            for up in (True, False):
                client = Client(2, (0, 5, pending)) if up else None
                staged = Staged(table_with([], [], rows), [Client(1, (0, 0, ())), client], (None, (0, 5, pending)))
                self.assert_complaints(staged, *told)
        # Of nothing that is pending nothing is wrong.
        staged = Staged(table_with([], [], [(1, 3, "unfit", (0, 0, 0))]), [None], ((1, 9, ()),))
        self.assert_complaints(staged)
        staged = Staged(table_with(), [None], ((1, 1, ((1, "a", None, ("remove",)),)),))
        self.assert_complaints(staged)

    def test_they_ascend(self):
        clients = [viewing(1, [("b", "write", (0, 0, 0), None), ("a", "write", (0, 0, 0), "q")], (0, 2, ())),
                   viewing(2, [("b", "read", (0, 0, 0), "")])]
        clients.append(Client(3, (0, 7, ((7, "c", None, ("remove",)),))))
        self.assert_complaints(
            Staged(table_with(), clients),
            ("lease", 1, "a"), ("lease", 1, "b"), ("lease", 2, "b"), ("number", 3), ("text", 1, "a"), ("text", 2, "b"),
            ("two", 1, 2, "b"),
        )

    def test_none_in_drawn_runs(self):
        for seed in range(60):
            for world in drawn_run(random.Random(seed), 1 + seed % 4, 150, 0.1 * (seed % 4)):
                self.assert_complaints(world)
            world.settle(20000)
            self.assert_complaints(world)


class Owed(unittest.TestCase):
    def test_nothing_is_owed(self):
        for world in (World(1), World(9), leased(), estranged()):
            self.assertEqual(owed(world), {})

    def test_pending_writes(self):
        write = (1, "a", None, ("put", "x"))
        world = after(World(3), ("do", 2, PUT))
        self.assertEqual(owed(world), {2: (write,)})
        after(world, ("fall", 2), ("do", 3, PUT), ("come", 0))
        # The server has done it, the client has not heard of it, and is down.
        self.assertEqual(owed(world), {2: (write,), 3: (write,)})
        world.settle(20000)
        self.assertEqual(owed(world), {})

    def test_held_writes(self):
        world = after(leased(), ("do", 1, ("hold", "a", ("put", "h"))), ("do", 1, ("hold", "a", ("remove",))))
        self.assertEqual(owed(world), {1: ((1, "a", (0, 0, 0), ("put", "h")), (2, "a", (1, 1, 1), ("remove",)))})
        after(world, ("come", 0), ("come", 0))
        self.assertEqual(owed(world), {1: ((2, "a", (1, 1, 1), ("remove",)),)})

    def test_what_is_returned_is_new(self):
        world = after(World(1), ("do", 1, PUT))
        owed(world).clear()
        self.assertEqual(len(owed(world)), 1)

    def test_watching_changes_nothing(self):
        world = ticked(after(leased(3), ("do", 1, ("hold", "a", ("put", "h"))), ("do", 2, PUT)), 1)
        before = state(world)
        trusted(world)
        complaints(world)
        owed(world)
        self.assertEqual(state(world), before)


if __name__ == "__main__":
    unittest.main()
