"""The facts of points 14, 17, 18 and 19, looked at straight from the words, whatever the package's own watch tells."""

import unittest

from leasefiles.basics import edited
from leasefiles.calls import calls_of
from leasefiles.histories import bar, is_history, is_right_order, right_order
from leasefiles.machines import sheet_of, table_of
from leasefiles.tables import file_of
from tests.drawn import NAMES
from tests.worlds import clients_of


def done_number(world, c):
    return max([row[1] for row in world.table()[3] if row[0] == c], default=0)


def at_server(world, c, name):
    """What quick is to tell: the server's file with the client's own writes that are not done there behind it."""
    stamp, text = file_of(world.table(), name)
    for number, named, _, edit in world.sheet(c)[2]:
        if named == name and number > done_number(world, c):
            text = edited(text, edit)
            stamp = (stamp[0] + 1, c, number)
    return stamp, text


def kind_of_view(client, name):
    """For reading or for writing, of an idle client's trusted view: only one for writing lets a put be held."""
    if client.running() is not None:
        return None
    client.begin(("hold", name, ("put", "z")))
    return "write" if client.result()[0] == "held" else "read"


class Facts(unittest.TestCase):
    def assert_trusted_views_are_in_force(self, world):
        """Tells how many trusted views there are."""
        seen = {name: [] for name in NAMES}
        clock, _, leases = world.table()[:3]
        for c in clients_of(world):
            for name in NAMES if world.up()[c] else []:
                told = world.client(c).quick(name)
                if told is None:
                    continue
                lease = [row for row in leases if row[:2] == (name, c) and clock < row[4]]
                self.assertEqual(len(lease), 1)
                self.assertIn(kind_of_view(world.client(c), name), (None, lease[0][2]))
                self.assertEqual(told, at_server(world, c, name))
                seen[name].append(lease[0][2])
        for kinds in seen.values():
            self.assertTrue(len(kinds) < 2 or "write" not in kinds, seen)
        return sum(len(kinds) for kinds in seen.values())

    def assert_each_write_has_one_fate(self, world):
        fates, lives = world.fates(), world.lives()
        writes = [(c, number) for c in clients_of(world) for number in range(1, world.sheet(c)[1] + 1)]
        self.assertEqual(sorted(fates), writes)
        for c in clients_of(world):
            words = [fates[(c, number)] for number in range(1, world.sheet(c)[1] + 1)]
            last = len(words) - words.count("pending")
            self.assertNotIn("pending", words[:last])
            self.assertEqual(last, done_number(world, c))
            pending = world.sheet(c)[2]
            if pending:
                self.assertIn(pending[0][0] - last, (0, 1))
        for name, life in lives.items():
            stamps = [stamp for stamp, _ in life]
            self.assertEqual([stamp[0] for stamp in stamps], list(range(1, len(stamps) + 1)))
            self.assertEqual(len({stamp[1:] for stamp in stamps}), len(stamps))
            self.assertEqual(life[-1], file_of(world.table(), name))
            for c in clients_of(world):
                # In the order in which the client made them.
                own = [stamp[2] for stamp in stamps if stamp[1] == c]
                self.assertEqual(own, sorted(own))
            self.assertTrue(all(fates[stamp[1:]] == "applied" for stamp in stamps))
        for write, fate in fates.items():
            standing = [name for name, life in lives.items() if write in [stamp[1:] for stamp, _ in life]]
            self.assertLessEqual(len(standing), 2 if fate == "applied" else 0)
            self.assertTrue(standing or fate != "applied")
            kept = [row[:2] for row in world.table()[4]]
            self.assertEqual(write in kept, fate == "aside")

    def assert_disks_tell_all(self, world):
        self.assertEqual(table_of(world.disk(0)), world.table())
        for c in clients_of(world):
            self.assertEqual(sheet_of(world.disk(c)), world.sheet(c))
            if world.up()[c]:
                self.assertEqual(world.client(c).sheet(), world.sheet(c))

    def assert_lists_fit(self, world):
        history, moments, events, deeds = world.history(), world.moments(), world.events(), world.deeds()
        self.assertEqual(len(history), len(moments))
        self.assertEqual(moments, sorted(moments))
        self.assertEqual([row[0] for row in deeds], sorted([row[0] for row in deeds]))
        for k in moments + [row[0] for row in deeds]:
            self.assertIn(k, range(len(events)))
        begins = [item[:3] for item in history if item[0] == "begin"]
        self.assertEqual(begins, [("begin",) + event[1:3] for event in events if event[0] in ("do", "break")])
        quicks = [item[:3] for item in history if item[0] == "quick"]
        self.assertEqual(quicks, [event for event in events if event[0] == "quick"])

    def assert_calls_are_right(self, world):
        calls = calls_of(world)
        self.assertIs(is_history(calls), True)
        self.assertIsNone(bar(calls))
        self.assertIs(is_right_order(calls, right_order(calls)), True)

    def assert_facts(self, world):
        """Looks at all facts; tells how many trusted views there are."""
        self.assert_each_write_has_one_fate(world)
        self.assert_disks_tell_all(world)
        self.assert_lists_fit(world)
        self.assert_calls_are_right(world)
        return self.assert_trusted_views_are_in_force(world)

    def assert_settles(self, world):
        """That settling ends with nothing pending and no letter on its way."""
        self.assertLess(world.settle(20000), 20000)
        self.assertEqual(world.bag(), [])
        for c in clients_of(world):
            self.assertEqual(world.sheet(c)[2], ())
        self.assertNotIn("pending", world.fates().values())
        self.assertEqual(world.settle(20000), 0)
        self.assert_facts(world)
