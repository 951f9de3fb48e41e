"""Point 17: machines that fall amid writing, behind any number of signs."""

import unittest

from leasefiles.disks import Disk, kept, noted, opened
from leasefiles.world import World
from tests.worlds import after, areas, delivered, done, estranged, leased, state

PUT = ("write", "a", ("put", "x"))


def disk_behind(disk, deeds, most):
    """The areas of a disk behind deeds of which only so many signs are written."""
    for deed in deeds:
        written = noted(disk, deed, most)
        most -= written
    return areas(disk)


def length_of(world, m, deed):
    return noted(world.disk(m), deed, None)


class Cuts(unittest.TestCase):
    def assert_cut(self, world, k, m, deed):
        """That a letter by which a machine notes this deed is cut behind each number of signs."""
        length = length_of(world, m, deed)
        before = state(world)
        for most in list(range(length + 3)) + [10 ** 29]:
            cut = after(world.copy(), ("cut", k, most))
            whole = most >= length
            self.assertEqual(areas(cut.disk(m)), disk_behind(world.disk(m), [deed], most))
            self.assertEqual(cut.bag(), world.bag()[:k] + world.bag()[k + 1:])
            self.assertEqual(cut.up(), [up and machine != m for machine, up in enumerate(world.up())])
            self.assertEqual(cut.history(), world.history() + [("fall", m)])
            self.assertEqual(cut.moments(), world.moments() + [len(world.events())])
            self.assertEqual(cut.events(), world.events() + [("cut", k, most)])
            told = [(len(world.events()), m, deed)] if whole else []
            self.assertEqual(cut.deeds(), world.deeds() + told)
            # What happens uncut, a rise being noted behind both, is the same if all was written.
            uncut = after(world.copy(), ("come", k), ("fall", m)) if whole else world
            self.assertEqual(cut.table(), uncut.table())
            self.assertEqual([cut.sheet(c) for c in range(1, len(cut.up()))],
                             [uncut.sheet(c) for c in range(1, len(cut.up()))])
            self.assertEqual((cut.fates(), cut.lives()), (uncut.fates(), uncut.lives()))
            after(cut, ("rise", m))
            if m > 0:
                boot, number, pending = uncut.sheet(m)
                self.assertEqual(cut.sheet(m), (boot + 1, number, pending))
        self.assertEqual(state(world), before)

    def test_a_grant_at_the_server(self):
        world = after(World(2), ("do", 1, ("lease", "a", "write")))
        self.assert_cut(world, 0, 0, ("grant", "a", 1, "write", (0, 1)))

    def test_a_give_at_the_server(self):
        world = after(leased(), ("do", 1, ("give", "a")))
        self.assert_cut(world, 0, 0, ("give", "a", 1, (0, 2)))

    def test_a_write_at_the_server(self):
        world = after(World(2), ("do", 2, ("names",)), ("do", 1, PUT))
        self.assert_cut(world, 1, 0, ("apply", 1, 1, "a", (1, 1, 1), "x"))

    def test_asides_adopted_and_struck_at_the_server(self):
        world = after(estranged(), ("do", 2, ("write", "a", ("adopt", 1, 1))))
        self.assert_cut(world, 0, 0, ("adopt", 2, 2, "a", (2, 2, 2), "held", 1, 1))
        world = after(estranged(), ("do", 2, ("write", "a", ("drop", 1, 1))))
        self.assert_cut(world, 0, 0, ("drop", 2, 2, 1, 1))
        world = after(estranged(), ("do", 1, ("write", "b", ("take", "a"))))
        self.assert_cut(world, 0, 0, ("take", 1, 2, "b", (1, 1, 2), "late", "a", (2, 1, 2)))

    def test_a_letter_by_which_an_operation_would_end(self):
        world = after(World(2), ("do", 1, PUT), ("come", 0))
        self.assert_cut(world, 0, 1, ("settled", 1))

    def test_a_done_behind_which_further_letters_would_be_written(self):
        world = after(leased(), ("do", 1, ("hold", "a", ("put", "x"))), ("do", 1, ("hold", "a", ("put", "y"))))
        after(world, ("do", 1, ("flush",)), ("come", 0))
        self.assert_cut(world, 0, 1, ("settled", 1))

    def test_letters_by_which_nothing_is_noted(self):
        world = after(World(2), ("do", 1, ("names",)))
        for most in (0, 5):
            cut = after(world.copy(), ("cut", 0, most))
            self.assertEqual((cut.bag(), cut.deeds(), cut.up()), ([], [], [False, True, True]))
            self.assertEqual(areas(cut.disk(0)), areas(world.disk(0)))
            self.assertEqual(cut.history()[1:], [("fall", 0)])
        after(world, ("come", 0))
        for most in (0, 5):
            # The list would end the operation.
            cut = after(world.copy(), ("cut", 0, most))
            self.assertEqual((cut.bag(), cut.deeds(), cut.up()), ([], [], [True, False, True]))
            self.assertEqual(cut.history()[1:], [("fall", 1)])
            after(cut, ("rise", 1))
            self.assertEqual((cut.client(1).running(), cut.client(1).result()), (None, None))

    def test_what_was_cut_is_done_later(self):
        world = after(World(1), ("do", 1, PUT), ("cut", 0, 20), ("rise", 0), ("again", 1))
        delivered(world)
        self.assertEqual(world.history()[-1], ("end", 1, PUT, ("written", "applied", (1, 1, 1))))
        world = after(World(1), ("do", 1, PUT), ("cut", 0, 2000), ("rise", 0), ("again", 1))
        delivered(world)
        self.assertEqual(world.history()[-1], ("end", 1, PUT, ("written", "applied", (1, 1, 1))))
        self.assertEqual([deed[0] for _, _, deed in world.deeds()], ["write", "apply", "rise", "settled"])


class Breaks(unittest.TestCase):
    def test_a_write_behind_each_number_of_signs(self):
        world = done(World(2), 1, ("write", "b", ("put", "old")))
        deed = ("write", "a", None, ("put", "x"))
        length = length_of(world, 1, deed)
        for most in list(range(length + 3)) + [10 ** 29]:
            broken = after(world.copy(), ("break", 1, PUT, most))
            whole = most >= length
            self.assertEqual(areas(broken.disk(1)), disk_behind(world.disk(1), [deed], most))
            # The begin stands ahead of the fall.
            self.assertEqual(broken.history(), world.history() + [("begin", 1, PUT), ("fall", 1)])
            self.assertEqual(broken.moments(), world.moments() + [len(world.events())] * 2)
            self.assertEqual(broken.deeds(), world.deeds() + ([(len(world.events()), 1, deed)] if whole else []))
            self.assertEqual((broken.bag(), broken.up()), ([], [True, False, True]))
            pending = ((2, "a", None, ("put", "x")),) if whole else ()
            self.assertEqual(broken.sheet(1), (0, 2 if whole else 1, pending))
            self.assertEqual(broken.fates(), {(1, 1): "applied", (1, 2): "pending"} if whole else {(1, 1): "applied"})
            after(broken, ("rise", 1))
            self.assertEqual(broken.sheet(1), (1, 2 if whole else 1, pending))
            self.assertIsNone(broken.client(1).running())

    def test_a_hold(self):
        hold = ("hold", "a", ("put", "x"))
        deed = ("write", "a", (0, 0, 0), ("put", "x"))
        length = length_of(leased(), 1, deed)
        for most in (0, length - 1, length):
            broken = after(leased(), ("break", 1, hold, most))
            # A hold would have ended at once.
            self.assertEqual(broken.history()[-2:], [("begin", 1, hold), ("fall", 1)])
            self.assertEqual(broken.bag(), [])
            self.assertEqual(broken.fates(), {(1, 1): "pending"} if most == length else {})

    def test_operations_that_note_nothing(self):
        for op in [("look", "a"), ("flush",), ("lease", "a", "read"), ("hold", "b", ("remove",)), ("refresh",)]:
            for most in (0, 7):
                world = after(World(1), ("break", 1, op, most))
                self.assertEqual(world.history(), [("begin", 1, op), ("fall", 1)])
                self.assertEqual((world.bag(), world.deeds(), world.moments()), ([], [], [0, 0]))
                fresh = Disk()
                opened(fresh)
                self.assertEqual(areas(world.disk(1)), areas(fresh))


class Compacting(unittest.TestCase):
    def worlds(self):
        world = estranged()
        after(world, ("do", 1, ("write", "b", ("put", "y"))), ("do", 2, PUT), ("come", 0))
        return [(world, m) for m in (0, 1, 2)] + [(World(1), 0), (World(1), 1)]

    def told(self, world, m):
        return world.table() if m == 0 else world.sheet(m)

    def test_without_a_fall(self):
        for world, m in self.worlds():
            before = state(world)
            disk = world.disk(m)
            kept(disk, (("stand", self.told(world, m)),), None)
            compacted = after(world.copy(), ("compact", m, None))
            self.assertEqual(areas(compacted.disk(m)), areas(disk))
            # Neither a deed nor anything of the history.
            self.assertEqual((compacted.deeds(), compacted.history()), (world.deeds(), world.history()))
            self.assertEqual((compacted.bag(), compacted.up()), (world.bag(), world.up()))
            self.assertEqual(self.told(compacted, m), self.told(world, m))
            after(compacted, ("fall", m), ("rise", m))
            after(world, ("fall", m), ("rise", m))
            self.assertEqual(self.told(compacted, m), self.told(world, m))
            self.assertNotEqual(state(world), before)

    def test_behind_each_number_of_signs(self):
        for world, m in self.worlds():
            item = ("stand", self.told(world, m))
            many = kept(world.disk(m), (item,), None)
            before = state(world)
            risen = after(world.copy(), ("fall", m), ("rise", m))
            for most in list(range(many + 3)) + [10 ** 29]:
                disk = world.disk(m)
                kept(disk, (item,), most)
                cut = after(world.copy(), ("compact", m, most))
                self.assertEqual(areas(cut.disk(m)), areas(disk))
                self.assertEqual(cut.history(), world.history() + [("fall", m)])
                self.assertEqual(cut.moments(), world.moments() + [len(world.events())])
                self.assertEqual(cut.deeds(), world.deeds())
                self.assertFalse(cut.up()[m])
                self.assertEqual(self.told(cut, m), self.told(world, m))
                after(cut, ("rise", m))
                self.assertEqual(self.told(cut, m), self.told(risen, m))
                self.assertEqual((cut.bag(), cut.fates(), cut.lives()), (risen.bag(), risen.fates(), risen.lives()))
            self.assertEqual(state(world), before)

    def test_again_and_again(self):
        world = leased()
        for most in (None, None, 3, None, 10 ** 6, None):
            after(world, ("compact", 0, most))
            if most is not None:
                after(world, ("rise", 0))
            done(world, 1, PUT)
        self.assertEqual(world.table()[1], (("a", (6, 1, 6), "x"),))


if __name__ == "__main__":
    unittest.main()
