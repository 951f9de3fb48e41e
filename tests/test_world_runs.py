"""Points 14, 17 and 19 over whole runs of worlds: letters lost, doubled and late, machines that fall amid noting."""

import random
import unittest

from leasefiles.world import World
from tests.drawn import drawn_run
from tests.facts import Facts
from tests.worlds import after, delivered, done


class Runs(Facts):
    def drive(self, seeds, clients, many, rough):
        """Looks at the facts of drawn runs; tells how many trusted views there were, and the words that were seen."""
        views, seen = 0, {}
        for seed in seeds:
            with self.subTest(seed=seed, clients=clients, rough=rough):
                for steps, world in enumerate(drawn_run(random.Random(seed), clients, many, rough)):
                    views += self.assert_trusted_views_are_in_force(world)
                    if steps % 25 == 0:
                        self.assert_facts(world)
                self.assert_facts(world)
                self.assert_settles(world)
                words = [event[0] for event in world.events()] + list(world.fates().values())
                words += [item[3][0] for item in world.history() if item[0] == "end"]
                for word in words:
                    seen[word] = seen.get(word, 0) + 1
        return views, seen

    def test_quiet_runs(self):
        for clients in (1, 2, 3, 4):
            views, seen = self.drive(range(6), clients, 250, 0)
            self.assertGreater(views, 200)
            self.assertGreater(seen["applied"], 30)

    def test_rough_runs(self):
        words = {}
        for clients in (1, 2, 3, 4):
            for rough in (0.05, 0.15, 0.3):
                views, seen = self.drive(range(100, 112), clients, 200, rough)
                self.assertGreater(views, 50)
                for word, many in seen.items():
                    words[word] = words.get(word, 0) + many
        for word in ("do again quick come double lose cut break fall rise compact tick applied aside unfit adopted struck "
                     "dropped looked names asides leased given written held refused flushed refreshed").split():
            self.assertGreater(words.get(word, 0), 1, word)

    def test_the_server_ticks_as_often_as_it_may_while_a_view_is_trusted(self):
        for falls in (False, True):
            world = after(World(2), ("do", 1, ("lease", "a", "write")), ("tick", 0), ("tick", 0), ("come", 0), ("come", 0))
            for _ in range(2):
                after(world, ("tick", 1), ("tick", 2), ("tick", 0), ("tick", 0))
                if falls:
                    after(world, ("fall", 0), ("rise", 0))
                self.assertEqual(self.assert_trusted_views_are_in_force(world), 1)
            after(world, ("tick", 1), ("tick", 2))
            self.assertEqual(self.assert_trusted_views_are_in_force(world), 0)
            self.assertEqual(world.table()[0], 6)
            # Client 2 is let as soon as the lease is in force no more, and not ere then.
            done(world, 2, ("look", "a"))
            while world.table()[2]:
                self.assertIsNotNone(world.client(2).running())
                delivered(after(world, ("tick", 0), ("tick", 1), ("tick", 2)))
                self.assertEqual(world.table()[2] == (), world.table()[0] == (14 if falls else 10))
            delivered(after(world, ("again", 2)))
            self.assertIsNone(world.client(2).running())

    def test_nine_clients(self):
        views, _ = self.drive(range(3), 9, 500, 0.1)
        self.assertGreater(views, 100)

    def test_every_step_of_some_runs(self):
        for seed in range(8):
            for world in drawn_run(random.Random(seed), 1 + seed % 3, 120, 0.2):
                self.assert_facts(world)

    def test_a_settled_world_settles_from_each_step(self):
        for seed in range(5):
            for steps, world in enumerate(drawn_run(random.Random(seed), 3, 100, 0.25)):
                if steps % 10 == 0:
                    self.assert_settles(world.copy())


if __name__ == "__main__":
    unittest.main()
