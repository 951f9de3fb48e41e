"""Point 17: settle, and its rounds."""

import random
import unittest

from leasefiles.errors import NoNumber
from leasefiles.world import World
from tests.drawn import drawn_run
from tests.samples import all_values, package_objects
from tests.worlds import after, clients_of, estranged, leased, state

PUT = ("write", "a", ("put", "x"))
HOLD = ("hold", "a", ("put", "h"))


def waits(world, c):
    return bool(world.sheet(c)[2]) or (world.up()[c] and world.client(c).running() is not None)


def is_settled(world):
    return not world.bag() and not any(waits(world, c) for c in clients_of(world))


def rounds(world):
    """Yields the events of one round behind another, as the point tells them."""
    while True:
        for m in range(len(world.up())):
            if not world.up()[m]:
                yield ("rise", m)
        while world.bag():
            yield ("come", 0)
        for c in clients_of(world):
            if waits(world, c):
                yield ("again", c)
                while world.bag():
                    yield ("come", 0)
        for c in clients_of(world):
            yield ("tick", c)
        yield ("tick", 0)


def settled_by_words(world, most):
    """A copy of the world that is settled event by event, and how many events were done."""
    world = world.copy()
    many = 0
    for event in rounds(world):
        if is_settled(world) or many == most:
            return world, many
        world.event(event)
        many += 1


class Settling(unittest.TestCase):
    def worlds(self):
        """Worlds that wait for something."""
        return [
            after(World(2), ("do", 1, PUT)),
            after(World(2), ("do", 1, PUT), ("lose", 0)),
            after(World(2), ("do", 1, PUT), ("lose", 0), ("fall", 1)),
            after(World(2), ("do", 1, PUT), ("fall", 0)),
            after(World(2), ("do", 1, PUT), ("fall", 0), ("fall", 1), ("fall", 2)),
            after(World(3), ("do", 1, ("look", "a")), ("do", 3, ("names",)), ("lose", 0)),
            after(leased(3), ("do", 2, PUT), ("do", 3, ("look", "a"))),
            after(leased(3), ("do", 1, HOLD), ("do", 1, HOLD), ("do", 2, PUT), ("do", 3, ("lease", "a", "write"))),
            after(leased(2), ("do", 1, HOLD), ("lose", 0), ("fall", 1), ("do", 2, PUT)),
            after(World(1), ("break", 1, PUT, 1000)),
            after(World(1), ("do", 1, PUT), ("cut", 0, 10)),
            # A letter alone, to a machine that is down.
            after(World(2), ("do", 1, ("look", "a")), ("come", 0), ("fall", 1)),
            after(estranged(), ("do", 1, ("write", "a", ("adopt", 1, 1))), ("compact", 0, 3)),
            after(World(9), *[("do", c, PUT) for c in range(1, 10)]),
        ]

    def test_rounds_as_the_point_tells_them(self):
        for world in self.worlds():
            by_words, many = settled_by_words(world, 20000)
            self.assertGreater(many, 0)
            self.assertTrue(is_settled(by_words))
            for most in [0, 1, 2, many - 1, many, many + 1, 20000]:
                if most < 0:
                    continue
                settled = world.copy()
                self.assertEqual(settled.settle(most), min(most, many))
                cut = settled_by_words(world, most)[0]
                self.assertEqual(state(settled), state(cut))
                self.assertEqual(is_settled(settled), most >= many)

    def test_rounds_behind_drawn_runs(self):
        for seed in range(30):
            chance = random.Random(seed)
            for world in drawn_run(chance, 1 + seed % 4, 60, 0.2):
                pass
            by_words, many = settled_by_words(world, 20000)
            for most in (many, max(0, many - 1), chance.randrange(many + 1)):
                settled = world.copy()
                self.assertEqual(settled.settle(most), most)
                self.assertEqual(state(settled), state(settled_by_words(world, most)[0]))
            self.assertEqual(settled_by_words(by_words, 20000)[1], 0)

    def test_what_is_settled_stays(self):
        fallen = after(World(2), ("fall", 0), ("fall", 2))
        for world in [World(1), World(9), fallen, leased(), estranged(), after(leased(), ("tick", 1))]:
            before = state(world)
            for most in (0, 1, 20000):
                self.assertEqual(world.settle(most), 0)
                self.assertEqual(state(world), before)

    def test_nothing_of_what_can_happen_is_left(self):
        for world in self.worlds():
            world.settle(20000)
            self.assertEqual(world.bag(), [])
            self.assertEqual(world.settle(20000), 0)
            for c in clients_of(world):
                self.assertEqual(world.sheet(c)[2], ())
                self.assertIsNone(world.client(c).running() if world.up()[c] else None)
            self.assertNotIn("pending", world.fates().values())

    def test_it_ends_amid_a_round(self):
        # Nothing waits as soon as the last letter has come: nobody ticks any more, and who is down stays so.
        world = after(World(2), ("do", 1, ("look", "a")))
        self.assertEqual(world.settle(20000), 2)
        self.assertEqual(world.events()[1:], [("come", 0), ("come", 0)])
        world = after(World(3), ("do", 1, ("names",)), ("lose", 0), ("fall", 2), ("fall", 0))
        self.assertEqual(world.settle(20000), 5)
        self.assertEqual(world.events()[4:], [("rise", 0), ("rise", 2), ("again", 1), ("come", 0), ("come", 0)])
        world = after(World(1), ("do", 1, ("look", "a")), ("fall", 1))
        self.assertEqual(world.settle(20000), 3)
        self.assertEqual(world.events()[2:], [("rise", 1), ("come", 0), ("come", 0)])

    def test_no_numbers(self):
        world = after(World(1), ("do", 1, PUT))
        before = state(world)
        wrong = [-1, 20001, 10 ** 29, True, False, None, "5", (1,), [0], {}] + package_objects()
        for most in wrong + [value for value in all_values() if not isinstance(value, int)]:
            with self.assertRaises(NoNumber) as caught:
                world.settle(most)
            self.assertIs(type(caught.exception), NoNumber)
            self.assertEqual(state(world), before)

    def test_as_many_as_there_may_be(self):
        world = after(World(1), ("do", 1, ("look", "a")))
        for _ in range(700):
            after(world, ("again", 1))
        world.copy().settle(1)
        self.assertEqual(world.settle(20000), 1402)


if __name__ == "__main__":
    unittest.main()
