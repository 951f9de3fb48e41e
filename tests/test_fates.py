"""Point 18: what becomes of writes and files."""

import random
import unittest

from leasefiles.tables import bare_table, behind
from leasefiles.world import World
from tests.drawn import drawn_run
from tests.worlds import after, clients_of, delivered, done, estranged, leased

PUT = ("write", "a", ("put", "x"))
REMOVE = ("write", "a", ("remove",))
ADOPT = ("write", "a", ("adopt", 1, 1))
DROP = ("write", "a", ("drop", 1, 1))


def told_by_tables(world):
    """Fates and lives as the server's tables tell them, one behind another."""
    fates = {(c, number): "pending" for c in clients_of(world) for number in range(1, world.sheet(c)[1] + 1)}
    lives = {}
    table = bare_table()
    for _, machine, deed in world.deeds():
        if machine != 0:
            continue
        elder, table = table, behind(table, deed)
        for row in table[3]:
            if row not in elder[3]:
                fates[row[:2]] = row[2]
        for row in elder[4]:
            if row not in table[4]:
                fates[row[:2]] = "adopted" if deed[0] == "adopt" else "struck"
        # Within one deed a take's own name stands ahead of the other one, but each has a list of its own.
        for name, stamp, text in table[1]:
            if (name, stamp, text) not in elder[1]:
                lives.setdefault(name, []).append((stamp, text))
    return fates, lives


class Fates(unittest.TestCase):
    def test_nothing_was_written(self):
        world = done(World(2), 1, ("lease", "a", "write"))
        done(world, 2, ("look", "a"))
        self.assertEqual((world.fates(), world.lives()), ({}, {}))

    def test_pending_then_applied(self):
        world = after(World(2), ("do", 2, PUT))
        self.assertEqual(world.fates(), {(2, 1): "pending"})
        self.assertEqual(world.lives(), {})
        after(world, ("come", 0))
        # The server noted of it, the client has not heard of it.
        self.assertEqual(world.sheet(2)[2], ((1, "a", None, ("put", "x")),))
        self.assertEqual(world.fates(), {(2, 1): "applied"})
        after(world, ("fall", 2), ("fall", 0), ("lose", 0))
        self.assertEqual(world.fates(), {(2, 1): "applied"})
        world.settle(20000)
        self.assertEqual(world.fates(), {(2, 1): "applied"})
        self.assertEqual(world.lives(), {"a": [((1, 2, 1), "x")]})

    def test_unfit(self):
        world = done(World(1), 1, REMOVE)
        done(world, 1, ("write", "a", ("take", "b")))
        done(world, 1, ADOPT)
        self.assertEqual(world.fates(), {(1, 1): "unfit", (1, 2): "unfit", (1, 3): "unfit"})
        self.assertEqual(world.lives(), {})

    def test_set_aside_then_adopted(self):
        world = estranged()
        self.assertEqual(world.fates(), {(1, 1): "aside", (2, 1): "applied"})
        after(world, ("do", 2, ADOPT))
        self.assertEqual(world.fates(), {(1, 1): "aside", (2, 1): "applied", (2, 2): "pending"})
        delivered(world)
        self.assertEqual(world.fates(), {(1, 1): "adopted", (2, 1): "applied", (2, 2): "applied"})
        self.assertEqual(world.lives(), {"a": [((1, 2, 1), "late"), ((2, 2, 2), "held")]})
        done(world, 1, ADOPT)
        self.assertEqual(world.fates()[(1, 1)], "adopted")
        self.assertEqual(world.fates()[(1, 2)], "unfit")

    def test_set_aside_then_struck(self):
        world = done(estranged(), 1, DROP)
        self.assertEqual(world.fates(), {(1, 1): "struck", (2, 1): "applied", (1, 2): "dropped"})
        done(world, 2, DROP)
        self.assertEqual(world.fates(), {(1, 1): "struck", (2, 1): "applied", (1, 2): "dropped", (2, 2): "unfit"})
        self.assertEqual(world.lives(), {"a": [((1, 2, 1), "late")]})

    def test_an_adopt_that_is_unfit_leaves_the_aside(self):
        world = done(estranged(), 2, ("write", "b", ("adopt", 1, 1)))
        self.assertEqual(world.fates(), {(1, 1): "aside", (2, 1): "applied", (2, 2): "unfit"})
        world = done(estranged(), 2, ("write", "b", ("drop", 1, 1)))
        self.assertEqual(world.fates(), {(1, 1): "aside", (2, 1): "applied", (2, 2): "unfit"})

    def test_a_second_write_that_is_set_aside_behind_the_first_one(self):
        world = after(leased(), ("do", 1, ("hold", "a", ("put", "h"))), ("do", 1, ("hold", "a", ("splice", 0, 0, "i"))))
        after(world, ("lose", 0), ("fall", 1))
        for _ in range(4):
            after(world, ("tick", 2), ("tick", 0), ("tick", 0))
        done(world, 2, PUT)
        after(world, ("rise", 1), ("again", 1))
        delivered(world)
        self.assertEqual(world.fates(), {(1, 1): "aside", (1, 2): "aside", (2, 1): "applied"})
        # The second one can be adopted without the first one.
        done(world, 2, ("write", "a", ("adopt", 1, 2)))
        self.assertEqual(world.fates(), {(1, 1): "aside", (1, 2): "adopted", (2, 1): "applied", (2, 2): "applied"})
        self.assertEqual(world.lives()["a"], [((1, 2, 1), "x"), ((2, 2, 2), "ix")])
        done(world, 1, ADOPT)
        done(world, 1, ("write", "a", ("drop", 1, 2)))
        self.assertEqual(world.fates(), {(1, 1): "adopted", (1, 2): "adopted", (1, 3): "applied", (1, 4): "unfit",
                                         (2, 1): "applied", (2, 2): "applied"})

    def test_writes_noted_by_a_deed_that_was_cut(self):
        world = after(World(1), ("break", 1, PUT, 5), ("rise", 1))
        self.assertEqual(world.fates(), {})
        after(world, ("break", 1, REMOVE, 1000))
        self.assertEqual(world.fates(), {(1, 1): "pending"})
        after(world, ("rise", 1), ("again", 1), ("cut", 0, 5))
        self.assertEqual(world.fates(), {(1, 1): "pending"})
        after(world, ("rise", 0), ("again", 1), ("cut", 0, 1000))
        self.assertEqual(world.fates(), {(1, 1): "unfit"})
        world.settle(20000)
        self.assertEqual(world.fates(), {(1, 1): "unfit"})


class Lives(unittest.TestCase):
    def test_a_name_that_has_no_file_any_more(self):
        world = done(done(World(1), 1, PUT), 1, REMOVE)
        self.assertEqual(world.lives(), {"a": [((1, 1, 1), "x"), ((2, 1, 2), None)]})
        done(world, 1, ("write", "a", ("put", "y")))
        self.assertEqual(world.lives(), {"a": [((1, 1, 1), "x"), ((2, 1, 2), None), ((3, 1, 3), "y")]})

    def test_two_writes_of_one_name(self):
        world = after(World(2), ("do", 1, PUT), ("do", 2, ("write", "a", ("put", "y"))), ("come", 1), ("come", 0))
        self.assertEqual(world.lives(), {"a": [((1, 2, 1), "y"), ((2, 1, 1), "x")]})
        self.assertEqual(world.fates(), {(1, 1): "applied", (2, 1): "applied"})

    def test_takes(self):
        world = done(done(World(2), 1, PUT), 2, ("write", "b", ("take", "a")))
        self.assertEqual(world.lives(), {"a": [((1, 1, 1), "x"), ((2, 2, 1), None)], "b": [((1, 2, 1), "x")]})
        done(world, 1, ("write", "a", ("take", "b")))
        self.assertEqual(world.lives(), {"a": [((1, 1, 1), "x"), ((2, 2, 1), None), ((3, 1, 2), "x")],
                                         "b": [((1, 2, 1), "x"), ((2, 1, 2), None)]})

    def test_what_is_told_is_new(self):
        world = done(World(1), 1, PUT)
        world.lives()["a"].append("more")
        world.fates().clear()
        self.assertEqual(world.lives(), {"a": [((1, 1, 1), "x")]})
        self.assertEqual(world.fates(), {(1, 1): "applied"})
        self.assertIsNot(world.lives()["a"], world.lives()["a"])

    def test_compacting_and_falls_leave_them(self):
        world = done(estranged(), 2, ADOPT)
        fates, lives = world.fates(), world.lives()
        after(world, ("compact", 0, 1000), ("rise", 0), ("compact", 1, None), ("fall", 1), ("rise", 1))
        self.assertEqual((world.fates(), world.lives()), (fates, lives))


class Runs(unittest.TestCase):
    def test_fates_and_lives_are_those_that_the_tables_tell(self):
        words = set()
        for seed in range(60):
            for steps, world in enumerate(drawn_run(random.Random(seed), 1 + seed % 4, 200, 0.1 * (seed % 3))):
                if steps % 20 == 0:
                    self.assertEqual((world.fates(), world.lives()), told_by_tables(world))
            world.settle(20000)
            self.assertEqual((world.fates(), world.lives()), told_by_tables(world))
            words.update(world.fates().values())
        self.assertEqual(words, {"applied", "aside", "unfit", "dropped", "adopted", "struck"})


if __name__ == "__main__":
    unittest.main()
