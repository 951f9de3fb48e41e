"""Server and clients together, with letters lost, doubled and late, and falls: the facts of points 14 and 16."""

import random
import unittest

from leasefiles.basics import edited
from leasefiles.clients import Client
from leasefiles.serving import serve
from leasefiles.sheets import bare_sheet, noted_behind
from leasefiles.tables import bare_table, behind, file_of

NAMES = ["a", "b", "c"]


class Run:
    """A server, clients, and a bag of letters; machines fall only between what they do."""

    def __init__(self, many, seed):
        self.chance = random.Random(seed)
        self.table = bare_table()
        self.server_up = True
        self.sheets = {c: bare_sheet() for c in range(1, many + 1)}
        self.clients = {c: Client(c, bare_sheet()) for c in self.sheets}
        # How often the server ticked since each client ticked last, or rose.
        self.seen = {c: 0 for c in self.sheets}
        self.bag = []
        self.ended = []

    def done_by_client(self, c, turn):
        deeds, letters = turn
        for deed in deeds:
            self.sheets[c] = noted_behind(self.sheets[c], deed)
        self.bag.extend(letters)

    def read(self, letter):
        if letter[0] == "server":
            if self.server_up:
                deeds, letters = serve(self.table, letter)
                for deed in deeds:
                    self.table = behind(self.table, deed)
                self.bag.extend(letters)
        elif letter[0] in self.clients:
            running = self.clients[letter[0]].running()
            self.done_by_client(letter[0], self.clients[letter[0]].take(letter))
            if running is not None and self.clients[letter[0]].running() is None:
                self.ended.append((letter[0], running, self.clients[letter[0]].result()))

    def edit(self):
        chance = self.chance
        return chance.choice([
            ("put", chance.choice(["x", "yy", ""])), ("splice", chance.randrange(3), chance.randrange(2), "s"),
            ("remove",), ("take", chance.choice(NAMES)),
            ("adopt", chance.randrange(1, 4), chance.randrange(1, 6)),
            ("drop", chance.randrange(1, 4), chance.randrange(1, 6)),
        ])

    def operation(self):
        name = self.chance.choice(NAMES)
        return self.chance.choice([
            ("look", name), ("names",), ("asides", name), ("lease", name, "read"), ("lease", name, "write"),
            ("lease", name, "write"), ("give", name), ("write", name, self.edit()), ("hold", name, self.edit()),
            ("hold", name, ("put", "h")), ("hold", name, ("splice", 0, 0, "i")), ("flush",), ("refresh",),
        ])

    def begin(self, c, op):
        self.done_by_client(c, self.clients[c].begin(op))

    def tick_client(self, c):
        self.clients[c].tick()
        self.seen[c] = 0

    def tick_server(self):
        if self.server_up and all(self.seen[c] < 2 for c in self.clients):
            self.table = behind(self.table, ("tick",))
            for c in self.seen:
                self.seen[c] += 1

    def rise(self, c):
        self.sheets[c] = noted_behind(self.sheets[c], ("boot",))
        self.clients[c] = Client(c, self.sheets[c])
        self.seen[c] = 0

    def step(self):
        chance = self.chance
        c = chance.choice(sorted(self.sheets))
        what = chance.randrange(100)
        if what < 45 and self.bag:
            k = chance.randrange(len(self.bag))
            letter = self.bag[k] if what < 4 else self.bag.pop(k)
            if what >= 8:
                self.read(letter)
        elif what < 70 and c in self.clients:
            if self.clients[c].running() is None:
                self.begin(c, self.operation())
            else:
                self.done_by_client(c, self.clients[c].again())
        elif what < 80 and c in self.clients:
            self.tick_client(c)
        elif what < 94:
            self.tick_server()
        elif what < 96:
            if c in self.clients:
                del self.clients[c]
            else:
                self.rise(c)
        elif what < 97:
            if not self.server_up:
                self.table = behind(self.table, ("rise",))
            self.server_up = not self.server_up

    def settle(self):
        """Rounds until nothing waits; tells whether they came to an end."""
        for _ in range(60):
            if not self.server_up:
                self.table = behind(self.table, ("rise",))
                self.server_up = True
            for c in self.sheets:
                if c not in self.clients:
                    self.rise(c)
            while self.bag:
                self.read(self.bag.pop(0))
            waiting = [c for c in self.clients if self.clients[c].running() is not None or self.sheets[c][2]]
            if not waiting:
                return True
            for c in waiting:
                self.done_by_client(c, self.clients[c].again())
                while self.bag:
                    self.read(self.bag.pop(0))
            for c in self.clients:
                self.tick_client(c)
            self.tick_server()
        return False


class Runs(unittest.TestCase):
    def done_number(self, run, c):
        return max([row[1] for row in run.table[3] if row[0] == c], default=0)

    def at_server(self, run, c, name):
        """What quick is to tell: the server's file with the client's own writes that are not done there behind it."""
        stamp, text = file_of(run.table, name)
        for number, named, _, edit in run.sheets[c][2]:
            if named == name and number > self.done_number(run, c):
                text = edited(text, edit)
                stamp = (stamp[0] + 1, c, number)
        return stamp, text

    def check(self, run, seed):
        trusted = []
        for c, client in run.clients.items():
            self.assertEqual(client.sheet(), run.sheets[c])
            if run.sheets[c][2]:
                self.assertIn(run.sheets[c][2][0][0] - self.done_number(run, c), (0, 1), seed)
            for name in NAMES:
                told = client.quick(name)
                if told is None:
                    continue
                leases = [row for row in run.table[2] if row[:2] == (name, c) and run.table[0] < row[4]]
                self.assertEqual(len(leases), 1, seed)
                # A client that tells a hold done has a view for writing.
                held = client.copy()
                writes = False
                if held.running() is None:
                    held.begin(("hold", name, ("put", "z")))
                    writes = held.result()[0] == "held"
                    self.assertEqual(writes, leases[0][2] == "write", seed)
                trusted.append((name, c, leases[0][2]))
                self.assertEqual(told, self.at_server(run, c, name), (seed, name, c))
        for name, c, kind in trusted:
            for other, d, beside in trusted:
                if name == other and c != d:
                    self.assertEqual((kind, beside), ("read", "read"), seed)
        return len(trusted)

    def test_facts_in_many_runs(self):
        views = ends = 0
        words = {}
        for seed in range(120):
            run = Run(1 + seed % 3, seed)
            for _ in range(400):
                caches = {c: dict([(file[0], file[1]) for file in client.cache()]) for c, client in run.clients.items()}
                clients = dict(run.clients)
                run.step()
                views += self.check(run, seed)
                for c, client in run.clients.items():
                    if clients.get(c) is client:
                        newer = {file[0]: file[1] for file in client.cache()}
                        for name, stamp in caches[c].items():
                            self.assertGreaterEqual(newer[name], stamp)
            self.assertTrue(run.settle(), seed)
            for c in run.sheets:
                self.assertEqual(run.sheets[c][2], ())
                self.assertEqual(self.done_number(run, c), run.sheets[c][1])
            ends += len(run.ended)
            for _, _, result in run.ended:
                words[result[0]] = words.get(result[0], 0) + 1
        self.assertGreater(views, 2000)
        self.assertGreater(ends, 1000)
        self.assertEqual(sorted(words), ["asides", "flushed", "given", "leased", "looked", "names", "refreshed", "written"])

    def test_refresh_of_a_quiet_server_tells_all_files(self):
        for seed in range(40):
            run = Run(2, seed)
            for _ in range(150):
                run.step()
            self.assertTrue(run.settle())
            run.begin(1, ("refresh",))
            self.assertTrue(run.settle())
            self.assertEqual(run.clients[1].cache(), run.table[1])
            self.assertEqual(run.clients[1].result(), ("refreshed", len(run.table[1])))

    def test_each_write_is_done_just_once(self):
        for seed in range(60):
            run = Run(3, 1000 + seed)
            applied = []
            for _ in range(300):
                before = run.table
                run.step()
                for name in NAMES:
                    stamp = file_of(run.table, name)[0]
                    if stamp != file_of(before, name)[0]:
                        self.assertGreater(stamp[0], file_of(before, name)[0][0])
                        applied.append((name, stamp[1:]))
            self.assertEqual(len(applied), len(set(applied)))
            for c in run.sheets:
                # In the order in which its client made them.
                numbers = [stamp[1] for _, stamp in applied if stamp[0] == c]
                self.assertEqual(numbers, sorted(numbers))


if __name__ == "__main__":
    unittest.main()
