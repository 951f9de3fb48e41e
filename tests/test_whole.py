"""Point 1 and every fact of the document, over whole runs of worlds with all kinds of events, at each step."""

import random
import unittest

from leasefiles.days import day, relived
from leasefiles.disks import lines, opened, standing
from leasefiles.errors import NoEvent
from leasefiles.letters import is_letter
from leasefiles.sheets import is_note, is_sheet
from leasefiles.tables import is_deed, is_table
from leasefiles.texts import packed, sealed, unpacked, unsealed
from leasefiles.watch import complaints, owed, trusted
from leasefiles.world import World
from tests.drawn import drawn_run
from tests.facts import Facts
from tests.worlds import after, areas, clients_of, state


class Whole(Facts):
    def setUp(self):
        self.refreshed = 0

    def assert_disks_are_sound(self, world):
        """The facts of 7: a disk is mended once, and what it tells is what it told."""
        for m in range(len(world.up())):
            disk = world.disk(m)
            items = opened(disk)
            mended = areas(disk)
            self.assertEqual(opened(disk), items)
            self.assertEqual(areas(disk), mended)
            k = standing(disk)
            self.assertEqual([entry[1] for entry in lines(mended[k]) if entry[0] == "item"], items)
            if world.up()[m]:
                # A machine that is up writes behind whole lines alone.
                self.assertTrue(all(text == "" or text.endswith("\n") for text in areas(world.disk(m))))
            for item in items:
                self.assertIs(is_deed(item) if m == 0 else is_note(item), True)

    def assert_forms(self, world):
        """Tables, sheets, letters and events are what the judges ask for, and things as 8 has them."""
        self.assertIs(is_table(world.table()), True)
        for c in clients_of(world):
            self.assertIs(is_sheet(world.sheet(c)), True)
        for letter in world.bag():
            self.assertIs(is_letter(letter), True)
        for thing in world.bag()[-2:] + world.events()[-1:] + world.history()[-1:]:
            self.assertEqual(unpacked(packed(thing)), thing)
            self.assertEqual(unsealed(sealed(thing)), (thing,))

    def assert_watched(self, world):
        self.assertEqual(complaints(world), ())
        self.assertEqual(owed(world), {c: world.sheet(c)[2] for c in clients_of(world) if world.sheet(c)[2]})
        for c, name, kind, stamp, text in trusted(world):
            self.assertEqual(world.client(c).quick(name), (stamp, text))
            leases = [row for row in world.table()[2] if row[:3] == (name, c, kind)]
            self.assertEqual(len(leases), 1)

    def caches(self, world):
        return {c: world.client(c).cache() for c in clients_of(world) if world.up()[c]}

    def assert_caches(self, world, elder):
        """The facts of 16: stamps in a cache only rise; and what it has the file once was."""
        lives = world.lives()
        for c, cache in self.caches(world).items():
            newer = {row[0]: row[1] for row in cache}
            if world.events()[-1] != ("rise", c):
                for name, stamp, _ in elder.get(c, ()):
                    self.assertGreaterEqual(newer[name], stamp)
            for name, stamp, text in cache:
                self.assertIn((stamp, text), lives[name])

    def assert_quick_reads_tell_settled_writes(self, world):
        """The main sentence: each read under a lease tells a state of its file, or what the reader itself holds."""
        told = world.history()[-1:]
        if told and told[0][0] == "quick" and told[0][3] is not None and world.events()[-1][0] == "quick":
            _, c, name, (stamp, text) = told[0]
            # Either the client's own write that is pending still, or just what the file has at this moment.
            own = [write[0] for write in world.sheet(c)[2] if write[1] == name]
            if stamp[1] != c or stamp[2] not in own:
                life = world.lives().get(name, [((0, 0, 0), None)])
                self.assertEqual((stamp, text), life[-1])
            else:
                self.assertEqual(stamp[2], own[-1])

    def assert_all(self, world, elder):
        self.assert_facts(world)
        self.assert_disks_are_sound(world)
        self.assert_forms(world)
        self.assert_watched(world)
        self.assert_caches(world, elder)
        self.assert_quick_reads_tell_settled_writes(world)

    def assert_day(self, world, chance, steps):
        """The facts of 21, of the day of a world whose states behind each event are told."""
        text = day(world)
        self.assertEqual(state(relived(text)[0]), state(world))
        first = text.index("\n") + 1
        for place in [chance.randrange(first, len(text)) for _ in range(5)]:
            other, many = relived(text[:place])
            self.assertEqual(state(other), steps[many])

    def assert_refreshed(self, world):
        """The fact of 16, of a quiet server: behind refresh a cache has all its files, if enough values were told."""
        for c in clients_of(world):
            twin = after(world.copy(), *[("rise", m) for m in (0, c) if not world.up()[m]])
            cached = {row[:2] for row in twin.client(c).cache()}
            unlike = len(cached ^ {row[:2] for row in twin.table()[1]})
            after(twin, ("do", c, ("refresh",)))
            enough = False
            while twin.bag():
                word, parts = twin.bag()[0][3:]
                # The letter for all files asks for the noughts of the empty polynomial.
                if (word == "values" and unlike <= parts[0]) or (word == "roots" and parts == ((),)):
                    enough = True
                after(twin, ("come", 0))
            self.assertEqual(twin.client(c).result(), ("refreshed", len(twin.client(c).cache())))
            if enough:
                self.assertEqual(twin.client(c).cache(), twin.table()[1])
                self.refreshed += 1

    def drive(self, seed, clients, many, rough):
        chance = random.Random(seed)
        steps = [state(World(clients))]
        elder = {}
        for world in drawn_run(chance, clients, many, rough):
            self.assert_all(world, elder)
            elder = self.caches(world)
            steps.append(state(world))
            if len(steps) % 10 == 0:
                # The chance of the run itself stays as it is.
                self.assert_day(world, random.Random(len(steps)), steps)
        self.assert_day(world, chance, steps)
        self.assert_settles(world)
        self.assert_all(world, {})
        self.assert_refreshed(world)
        self.assertEqual(owed(world), {})

    def test_runs(self):
        for clients in (1, 2, 3, 4):
            for rough in (0, 0.1, 0.3):
                with self.subTest(clients=clients, rough=rough):
                    self.drive(clients, clients, 100, rough)
        self.assertGreater(self.refreshed, 5)

    def test_nine_clients(self):
        self.drive(9, 9, 150, 0.15)

    def test_a_long_run(self):
        for seed in range(2):
            chance = random.Random(seed)
            for steps, world in enumerate(drawn_run(chance, 3, 1200, 0.08)):
                if steps % 100 == 0:
                    self.assert_all(world, {})
                else:
                    self.assertEqual(complaints(world), ())
            self.assert_settles(world)
            self.assert_refreshed(world)

    def test_whatever_order_letters_come_in(self):
        """Two clients at one file, and all that can happen to their letters, and to clocks, within few events."""
        start = after(World(2), ("do", 1, ("lease", "a", "write")), ("do", 2, ("write", "a", ("put", "x"))))
        seen = set()
        waiting = [start]
        while waiting:
            world = waiting.pop()
            self.assertEqual(complaints(world), ())
            if len(world.events()) == 7:
                continue
            letters = range(len(world.bag()))
            events = [(word, k) for word in ("come", "double", "lose") for k in letters] + [("fall", 0), ("rise", 0)]
            for event in events:
                twin = world.copy()
                try:
                    twin.event(event)
                except NoEvent:
                    continue
                told = repr((state(twin)[:3], sorted(twin.bag(), key=repr), twin.up(), len(twin.events())))
                if told not in seen:
                    seen.add(told)
                    waiting.append(twin)
        self.assertGreater(len(seen), 200)

    def test_a_lost_world_comes_back(self):
        """All machines fall at once, all letters are lost: what was noted is settled all the same."""
        for seed in range(10):
            for world in drawn_run(random.Random(seed), 3, 80, 0.1):
                pass
            for m, up in enumerate(world.up()):
                if up:
                    after(world, ("fall", m))
            while world.bag():
                after(world, ("lose", 0))
            fates = world.fates()
            self.assertEqual(trusted(world), ())
            for m in range(4):
                after(world, ("rise", m))
            self.assert_settles(world)
            self.assertEqual(sorted(world.fates()), sorted(fates))
            for write, fate in fates.items():
                if fate not in ("pending", "aside"):
                    self.assertEqual(world.fates()[write], fate)


if __name__ == "__main__":
    unittest.main()
