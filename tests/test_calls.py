"""Point 19: the calls of a world."""

import random
import unittest

from leasefiles.calls import calls_of
from leasefiles.histories import bar, is_history, is_right_order, right_order
from leasefiles.world import World
from tests.drawn import drawn_run
from tests.worlds import after, clients_of, delivered, done, estranged, leased

PUT = ("write", "a", ("put", "x"))
HOLD = ("hold", "a", ("put", "h"))
LOOK = ("look", "a")


class Looks(unittest.TestCase):
    def test_a_look_that_ended(self):
        world = after(World(2), ("tick", 0), ("do", 1, LOOK), ("come", 0), ("tick", 1), ("come", 0))
        # Nothing of the name: the first stamp is told as None.
        self.assertEqual(calls_of(world), (("read", "a", None, 2, 9),))

    def test_a_look_that_tells_a_stamp(self):
        world = done(done(World(2), 1, PUT), 2, LOOK)
        self.assertEqual(calls_of(world), (("write", "a", (1, 1, 1), 0, 5), ("read", "a", (1, 1, 1), 6, 11)))

    def test_a_look_at_a_file_that_was_removed(self):
        world = done(done(World(1), 1, PUT), 1, ("write", "a", ("remove",)))
        self.assertEqual(calls_of(done(world, 1, LOOK))[2:], (("read", "a", (2, 1, 2), 12, 17),))

    def test_looks_that_did_not_end(self):
        for events in [[], [("come", 0)], [("lose", 0)], [("fall", 1)], [("come", 0), ("cut", 0, 9)], [("fall", 0)],
                       [("fall", 1), ("rise", 1), ("come", 0), ("come", 0)]]:
            self.assertEqual(calls_of(after(World(2), ("do", 1, LOOK), *events)), ())
        self.assertEqual(calls_of(after(World(1), ("break", 1, LOOK, 0))), ())

    def test_a_look_behind_one_that_was_broken_off(self):
        world = after(World(1), ("do", 1, LOOK), ("fall", 1), ("rise", 1), ("do", 1, LOOK), ("lose", 0))
        self.assertEqual(calls_of(world), ())
        self.assertEqual(calls_of(delivered(world)), (("read", "a", None, 6, 13),))

    def test_other_operations_are_no_calls(self):
        world = leased(1)
        for op in [("names",), ("asides", "a"), ("give", "a"), ("flush",), ("refresh",), ("lease", "a", "read")]:
            done(world, 1, op)
        self.assertEqual(calls_of(after(world, ("quick", 1, "a"))), ())


class Writes(unittest.TestCase):
    def test_it_is_told_as_soon_as_the_server_noted_it(self):
        world = after(World(1), ("do", 1, PUT))
        self.assertEqual(calls_of(world), ())
        after(world, ("come", 0))
        self.assertEqual(calls_of(world), (("write", "a", (1, 1, 1), 0, None),))
        after(world, ("come", 0))
        self.assertEqual(calls_of(world), (("write", "a", (1, 1, 1), 0, 5),))

    def test_held_writes_never_end(self):
        world = after(leased(), ("do", 1, HOLD), ("do", 1, HOLD), ("do", 1, ("flush",)))
        self.assertEqual(calls_of(world), ())
        delivered(world)
        self.assertEqual(world.history()[-1][3], ("flushed",))
        self.assertEqual(calls_of(world), (("write", "a", (1, 1, 1), 6, None), ("write", "a", (2, 1, 2), 8, None)))

    def test_a_write_behind_held_ones(self):
        world = after(leased(), ("do", 1, HOLD), ("do", 1, PUT))
        delivered(world)
        end = 2 * (len(world.events()) - 1) + 1
        self.assertEqual(calls_of(world), (("write", "a", (1, 1, 1), 6, None), ("write", "a", (2, 1, 2), 8, end)))

    def test_a_client_that_fell(self):
        world = after(World(1), ("do", 1, PUT), ("fall", 1))
        self.assertEqual(calls_of(world), ())
        world.settle(20000)
        # Its operation never ended, though the write was settled.
        self.assertEqual(calls_of(world), (("write", "a", (1, 1, 1), 0, None),))
        done(world, 1, PUT)
        begin = 2 * world.moments()[-2]
        self.assertEqual(calls_of(world)[1:], (("write", "a", (2, 1, 2), begin, begin + 5),))

    def test_a_client_that_fell_amid_noting(self):
        world = after(World(1), ("break", 1, PUT, 9))
        world.settle(20000)
        self.assertEqual(calls_of(world), ())
        # The torn write left no number behind, so the next one is the first one.
        after(world, ("rise", 1))
        done(world, 1, PUT)
        self.assertEqual(calls_of(world), (("write", "a", (1, 1, 1), 4, 9),))
        world = after(World(1), ("break", 1, PUT, 1000))
        world.settle(20000)
        self.assertEqual(calls_of(world), (("write", "a", (1, 1, 1), 0, None),))

    def test_a_client_that_fell_amid_settling(self):
        world = after(World(1), ("do", 1, PUT), ("come", 0), ("cut", 0, 1000))
        self.assertEqual(calls_of(world), (("write", "a", (1, 1, 1), 0, None),))

    def test_writes_that_gave_no_stamp(self):
        world = done(World(1), 1, ("write", "a", ("remove",)))
        self.assertEqual(world.history()[-1][3][1], "unfit")
        self.assertEqual(calls_of(world), ())
        world = estranged()
        late = ("write", "a", (1, 2, 1), 36, 41)
        self.assertEqual(calls_of(world), (late,))
        self.assertEqual(calls_of(done(world.copy(), 1, ("write", "a", ("drop", 1, 1)))), (late,))
        adopted = done(world, 2, ("write", "a", ("adopt", 1, 1)))
        begin = 2 * adopted.moments()[-2]
        # It is the adopt that gave the stamp, not the write that was set aside.
        self.assertEqual(calls_of(adopted), (late, ("write", "a", (2, 2, 2), begin, begin + 5)))

    def test_takes(self):
        world = done(done(World(2), 1, PUT), 2, ("write", "b", ("take", "a")))
        self.assertEqual(calls_of(world), (
            ("write", "a", (1, 1, 1), 0, 5), ("write", "b", (1, 2, 1), 6, 11), ("write", "a", (2, 2, 1), 6, 11),
        ))
        done(done(world, 1, ("look", "a")), 1, ("look", "b"))
        self.assertEqual([call[2] for call in calls_of(world)[3:]], [(2, 2, 1), (1, 2, 1)])

    def test_two_clients_at_once(self):
        world = after(World(2), ("do", 1, PUT), ("do", 2, PUT), ("come", 1), ("come", 0))
        after(world, ("come", 1), ("come", 0))
        self.assertEqual(calls_of(world), (("write", "a", (2, 1, 1), 0, 9), ("write", "a", (1, 2, 1), 2, 11)))


class Runs(unittest.TestCase):
    def written(self, world):
        """The (name, stamp) that calls are to tell of writes."""
        return sorted((name, stamp) for name, life in world.lives().items() for stamp, _ in life)

    def looked(self, world):
        return sorted([(item[2][1], item[3][1]) for item in world.history() if item[0] == "end" and item[2][0] == "look"])

    def test_a_history_with_a_right_order_at_each_step(self):
        ended = unended = 0
        for seed in range(30):
            for world in drawn_run(random.Random(seed), 1 + seed % 4, 120, 0.1 * (seed % 3)):
                calls = calls_of(world)
                self.assertIs(is_history(calls), True)
                self.assertIsNone(bar(calls))
                self.assertIs(is_right_order(calls, right_order(calls)), True)
            self.assertEqual(sorted(call[1:3] for call in calls if call[0] == "write"), self.written(world))
            told = [(call[1], call[2] or (0, 0, 0)) for call in calls if call[0] == "read"]
            self.assertEqual(sorted(told), self.looked(world))
            ended += len([call for call in calls if call[4] is not None])
            unended += len([call for call in calls if call[4] is None])
            begins = [world.events()[call[3] // 2] for call in calls]
            self.assertTrue(all(event[0] in ("do", "break") for event in begins))
            # A write ends at most once by an operation, each at a moment of its own.
            ends = [world.events()[call[4] // 2] for call in calls if call[4] is not None]
            self.assertTrue(all(event[0] in ("come", "double") for event in ends))
            self.assertTrue(all(call[3] % 2 == 0 and (call[4] or 1) % 2 == 1 for call in calls))
        self.assertGreater(min(ended, unended), 20)

    def test_what_is_returned_does_not_change_later(self):
        world = done(World(1), 1, PUT)
        calls = calls_of(world)
        done(world, 1, LOOK)
        self.assertEqual(calls, (("write", "a", (1, 1, 1), 0, 5),))
        self.assertEqual(list(clients_of(world)), [1])


if __name__ == "__main__":
    unittest.main()
