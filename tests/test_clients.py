"""Points 13 and 14: clients, their operations, views, pending writes and calls back."""

import unittest

from leasefiles.clients import Client
from leasefiles.errors import Busy, NoClient, NoLetter, NoName, NoOp, NoSheet
from leasefiles.letters import is_letter
from leasefiles.sheets import bare_sheet, is_note
from tests.parts import right, wrong
from tests.samples import all_values, package_objects

FIRST = (0, 0, 0)
STAMP = (4, 2, 7)
OPERATIONS = {
    "look": ("name",),
    "names": (),
    "asides": ("name",),
    "lease": ("name", "kind"),
    "give": ("name",),
    "write": ("name", "edit"),
    "hold": ("name", "edit"),
    "flush": (),
    "refresh": (),
}
PUT = ("put", "new")
NOTHING = ((), ())
METHODS = ["begin", "take", "again", "tick", "running", "result", "sheet", "quick", "cache", "copy"]


def asked(word, rest, k, client=1, boot=3):
    """A letter of a client, with the talk of its k-th letter."""
    return ("server", client, (boot, k), word, rest)


def do(number, name, base, edit, client=1, boot=3):
    return ("server", client, (boot, 0), "do", (number, name, base, edit))


def told(word, rest, k, client=1, boot=3):
    """A letter to a client, that answers its k-th letter."""
    return (client, "server", (boot, k), word, rest)


def done(number, word="applied", stamp=(5, 1, 1), talk=(3, 0), client=1):
    return (client, "server", talk, "done", (number, word, stamp))


def recall(name, talk=(0, 0), client=1):
    return (client, "server", talk, "recall", (name,))


def risen(pending=(), number=None):
    """A client that rose for the third time, with these pending writes (name, base, edit), numbers from 1 on."""
    writes = tuple([(k + 1,) + write for k, write in enumerate(pending)])
    return Client(1, (3, len(writes) if number is None else number, writes))


def leased(kind="write", name="a", stamp=STAMP, text="old", client=None):
    """A client with a view of a name; its first letter is used up if it is new."""
    client = risen() if client is None else client
    letter = client.begin(("lease", name, kind))[1][0]
    client.take((1, "server", letter[2], "granted", (name, kind, stamp, text)))
    assert client.result() == ("leased", kind, stamp, text)
    return client


class Asking(unittest.TestCase):
    def assert_turn(self, turn, notes=(), letters=()):
        self.assertEqual(turn, (tuple(notes), tuple(letters)))
        self.assertEqual([type(part) for part in turn], [tuple, tuple])
        self.assertTrue(all(is_note(note) for note in turn[0]), turn)
        self.assertTrue(all(is_letter(letter) and letter[0] == "server" for letter in turn[1]), turn)

    def assert_ended(self, client, result):
        self.assertIsNone(client.running())
        self.assertEqual(client.result(), result)

    def assert_runs(self, client, op, result=None):
        self.assertEqual(client.running(), op)
        self.assertEqual(client.result(), result)


class Construction(Asking):
    def test_a_new_client(self):
        for number in (1, 5, 9):
            for sheet in (bare_sheet(), (3, 2, ((2, "a", None, PUT),)), (1, 9, ())):
                client = Client(number, sheet)
                self.assert_ended(client, None)
                self.assertEqual(client.sheet(), sheet)
                self.assertEqual(client.cache(), ())
                self.assertIsNone(client.quick("a"))
                self.assertIsNone(client.tick())

    def test_each_method_is_of_the_class_itself(self):
        for name in METHODS:
            self.assertIn(name, vars(Client))

    def test_no_clients_and_no_sheets(self):
        for number in [0, 10, -1, True, False, None, "1", (1,), [1], "server"] + package_objects():
            for sheet in (bare_sheet(), None, 7):
                with self.assertRaises(NoClient) as caught:
                    Client(number, sheet)
                self.assertIs(type(caught.exception), NoClient)
        for sheet in [None, (), (0, 0), (0, 0, []), (0, 1, ((2, "a", None, PUT),)), (-1, 0, ()), [0, 0, ()]]:
            with self.assertRaises(NoSheet):
                Client(1, sheet)
        for sheet in all_values():
            with self.assertRaises(NoSheet):
                Client(9, sheet)


class Operations(Asking):
    def test_right_ones(self):
        for word, form in OPERATIONS.items():
            for parts in right(form):
                risen().begin((word,) + parts)

    def test_wrong_ones(self):
        busy = risen()
        busy.begin(("names",))
        for client in (risen(), busy):
            before = client.running()
            for word, form in OPERATIONS.items():
                for parts in wrong(form):
                    op = (word,) + parts if isinstance(parts, tuple) else (word, parts)
                    with self.assertRaises(NoOp, msg=op) as caught:
                        client.begin(op)
                    self.assertIs(type(caught.exception), NoOp)
                with self.assertRaises(NoOp):
                    client.begin([word] + list(right(form)[0]))
            for op in all_values() + [("quick", "a"), ("do", "a"), ("sums", 2), ("tick",), ("looks", "a"), "names"]:
                with self.assertRaises(NoOp):
                    client.begin(op)
            self.assertEqual(client.running(), before)
            self.assertEqual(client.sheet(), (3, 0, ()))

    def test_begin_while_one_runs(self):
        for first in [("look", "a"), ("names",), ("asides", "a"), ("lease", "a", "read"), ("give", "a"),
                      ("write", "a", PUT), ("refresh",)]:
            client = risen()
            client.begin(first)
            letters = client.again()
            for second in [("look", "a"), ("names",), ("write", "a", PUT), ("hold", "a", PUT), ("flush",), first]:
                with self.assertRaises(Busy) as caught:
                    client.begin(second)
                self.assertIs(type(caught.exception), Busy)
            self.assert_runs(client, first)
            self.assertEqual(client.again(), letters)
        client = risen([("a", None, PUT)])
        client.begin(("flush",))
        with self.assertRaises(Busy):
            client.begin(("flush",))

    def test_talks_rise_letter_by_letter(self):
        client = Client(7, (12, 0, ()))
        for k, (op, word, rest) in enumerate([(("look", "a"), "told", ("a", FIRST, None)), (("names",), "list", ((),)),
                                              (("give", "b"), "given", ("b",)),
                                              (("asides", "a"), "kept", ("a", ())),
                                              (("look", "a"), "told", ("a", STAMP, "x"))], start=1):
            self.assert_turn(client.begin(op), (), [("server", 7, (12, k), op[0], op[1:])])
            self.assert_turn(client.again(), (), [("server", 7, (12, k), op[0], op[1:])])
            client.take((7, "server", (12, k), word, rest))
            self.assertIsNone(client.running())


class Looks(Asking):
    ASIDES = ((1, 2, None, PUT), (2, 1, STAMP, ("remove",)))
    CASES = [
        (("look", "a"), "told", ("a", STAMP, "text"), ("looked", STAMP, "text")),
        (("look", "a"), "told", ("a", FIRST, None), ("looked", FIRST, None)),
        (("look", "a"), "told", ("a", STAMP, None), ("looked", STAMP, None)),
        (("names",), "list", (("a", "b"),), ("names", ("a", "b"))),
        (("names",), "list", ((),), ("names", ())),
        (("asides", "a"), "kept", ("a", ASIDES), ("asides", ASIDES)),
        (("asides", "a"), "kept", ("a", ()), ("asides", ())),
    ]

    def test_begin_to_end(self):
        for op, word, rest, result in self.CASES:
            client = risen()
            self.assert_turn(client.begin(op), (), [asked(op[0], op[1:], 1)])
            self.assert_runs(client, op)
            self.assert_turn(client.take(told(word, rest, 1)))
            self.assert_ended(client, result)
            self.assert_turn(client.again())
            # The same answer doubled.
            self.assert_turn(client.take(told(word, rest, 1)))
            self.assert_ended(client, result)

    def test_answers_with_another_talk_change_nothing(self):
        for op, word, rest, result in self.CASES:
            client = risen()
            client.begin(("names",))
            client.take(told("list", (("z",),), 1))
            client.begin(op)
            for talk in [(3, 1), (3, 3), (2, 2), (4, 2), (3, 0), (0, 0), (2, 3)]:
                for other in (word, "busy", "given", "told", "list"):
                    parts = {"told": ("a", (9, 9, 9), "no"), "list": (("no",),)}.get(other, ("a",))
                    parts = rest if other == word else parts
                    self.assert_turn(client.take((1, "server", talk, other, parts)))
                    self.assert_runs(client, op, ("names", ("z",)))
                    self.assertEqual(client.cache(), ())
            self.assert_turn(client.take(told(word, rest, 2)))
            self.assert_ended(client, result)

    def test_busy_and_then_again(self):
        for op, word, rest, result in self.CASES + [(("lease", "a", "read"), "granted", ("a", "read", STAMP, "x"),
                                                     ("leased", "read", STAMP, "x"))]:
            client = risen()
            client.begin(op)
            for _ in range(2):
                self.assert_turn(client.take(told("busy", ("a",), 1)))
                self.assert_runs(client, op)
                self.assert_turn(client.again(), (), [asked(op[0], op[1:], 1)])
            client.take(told(word, rest, 1))
            self.assert_ended(client, result)
            self.assert_turn(client.take(told("busy", ("a",), 1)))
            self.assert_ended(client, result)

    def test_letters_to_others(self):
        client = risen()
        client.begin(("look", "a"))
        letter = told("told", ("a", STAMP, "x"), 1)
        wrong_letters = [(2,) + letter[1:], (9,) + letter[1:], asked("look", ("a",), 1), asked("look", ("a",), 1, 2),
                         (1, 2) + letter[2:], list(letter), letter[:4], letter + (1,), letter[:3] + ("tell", ("a",)),
                         done(1, client=2), recall("a", client=2), done(0), letter[:2] + ((3, True),) + letter[3:],
                         (True,) + letter[1:]]
        for thing in wrong_letters + all_values():
            with self.assertRaises(NoLetter) as caught:
                client.take(thing)
            self.assertIs(type(caught.exception), NoLetter)
            self.assert_runs(client, ("look", "a"))


class Leases(Asking):
    def test_begin_to_end(self):
        for kind in ("read", "write"):
            for stamp, text in [(STAMP, "x"), (FIRST, None), (STAMP, None)]:
                client = risen()
                self.assert_turn(client.begin(("lease", "a", kind)), (), [asked("lease", ("a", kind), 1)])
                self.assertIsNone(client.quick("a"))
                self.assert_turn(client.take(told("granted", ("a", kind, stamp, text), 1)))
                self.assert_ended(client, ("leased", kind, stamp, text))
                self.assertEqual(client.quick("a"), (stamp, text))
                self.assertIsNone(client.quick("b"))

    def test_granted_of_another_name_or_kind(self):
        client = risen()
        client.begin(("lease", "a", "read"))
        for rest in [("b", "read", STAMP, "x"), ("a", "write", STAMP, "x")]:
            self.assert_turn(client.take(told("granted", rest, 1)))
            self.assert_runs(client, ("lease", "a", "read"))
            self.assertIsNone(client.quick("a"))
            self.assertEqual(client.cache(), ())

    def test_granted_with_another_talk(self):
        client = risen()
        client.begin(("lease", "a", "read"))
        client.take(told("granted", ("a", "read", STAMP, "old"), 1))
        client.begin(("lease", "a", "read"))
        self.assertIsNone(client.quick("a"))
        self.assert_turn(client.take(told("granted", ("a", "read", STAMP, "old"), 1)))
        self.assert_runs(client, ("lease", "a", "read"), ("leased", "read", STAMP, "old"))
        self.assertIsNone(client.quick("a"))
        client.take(told("granted", ("a", "read", (5, 1, 1), "new"), 2))
        self.assertEqual(client.quick("a"), ((5, 1, 1), "new"))
        self.assert_turn(client.take(told("granted", ("a", "read", STAMP, "old"), 1)))
        self.assertEqual(client.quick("a"), ((5, 1, 1), "new"))

    def test_the_view_goes_as_the_lease_is_asked_for(self):
        client = leased("write")
        self.assertEqual(client.quick("a"), (STAMP, "old"))
        client.begin(("lease", "a", "read"))
        self.assertIsNone(client.quick("a"))

    def test_trusted_for_two_ticks(self):
        client = leased("read")
        for _ in range(2):
            client.tick()
            self.assertEqual(client.quick("a"), (STAMP, "old"))
        client.tick()
        self.assertIsNone(client.quick("a"))
        leased("read", "a", (9, 9, 9), "newer", client)
        self.assertEqual(client.quick("a"), ((9, 9, 9), "newer"))

    def test_since_is_when_the_letter_was_written_first(self):
        for ticks, trusted in [(0, 3), (1, 2), (2, 1), (3, 0), (4, 0)]:
            client = risen()
            client.tick()
            client.begin(("lease", "a", "read"))
            for _ in range(ticks):
                client.tick()
                client.again()
                client.take(told("busy", ("a",), 1))
            client.take(told("granted", ("a", "read", STAMP, "x"), 1))
            self.assertEqual(client.result(), ("leased", "read", STAMP, "x"))
            for _ in range(trusted):
                self.assertEqual(client.quick("a"), (STAMP, "x"))
                client.tick()
            self.assertIsNone(client.quick("a"))

    def test_a_lease_waits_for_pending_writes(self):
        for edit, named in [(PUT, "a"), (("take", "b"), "a"), (("take", "b"), "b"), (("adopt", 1, 1), "a")]:
            client = risen([("a", None, edit), ("z", None, PUT)])
            op = ("lease", named, "read")
            self.assert_turn(client.begin(op))
            self.assert_turn(client.again(), (), [do(1, "a", None, edit)])
            client.tick()
            self.assert_turn(client.take(done(1)), [("settled", 1)],
                             [do(2, "z", None, PUT), asked("lease", (named, "read"), 1)])
            self.assert_turn(client.again(), (), [do(2, "z", None, PUT), asked("lease", (named, "read"), 1)])
            client.tick()
            client.take(told("granted", (named, "read", STAMP, "x"), 1))
            client.tick()
            self.assertEqual(client.quick(named), (STAMP, "x"))
            client.tick()
            self.assertIsNone(client.quick(named))

    def test_a_lease_beside_pending_writes_of_other_names(self):
        client = risen([("a", None, PUT), ("b", None, ("take", "c")), ("d", None, ("adopt", 1, 1))])
        self.assert_turn(client.begin(("lease", "z", "write")), (), [asked("lease", ("z", "write"), 1)])
        self.assert_turn(client.again(), (), [do(1, "a", None, PUT), asked("lease", ("z", "write"), 1)])

    def test_the_last_write_that_names_the_name_lets_it_go(self):
        client = risen([("a", None, PUT), ("b", None, ("take", "a")), ("a", None, ("remove",))])
        client.begin(("lease", "a", "write"))
        self.assert_turn(client.take(done(1)), [("settled", 1)], [do(2, "b", None, ("take", "a"))])
        self.assert_turn(client.take(done(2)), [("settled", 2)], [do(3, "a", None, ("remove",))])
        self.assert_turn(client.take(done(3)), [("settled", 3)], [asked("lease", ("a", "write"), 1)])

    def test_no_names(self):
        client = leased()
        for name in ["", "A", "abcdefghi", None, 1, True, ("a",), ["a"]] + package_objects() + [{}, "a b"]:
            with self.assertRaises(NoName) as caught:
                client.quick(name)
            self.assertIs(type(caught.exception), NoName)


class Gives(Asking):
    def test_begin_to_end(self):
        for client in (leased("write"), leased("read")):
            self.assert_turn(client.begin(("give", "a")), (), [asked("give", ("a",), 2)])
            self.assertIsNone(client.quick("a"))
            for talk in (1, 3):
                self.assert_turn(client.take(told("given", ("a",), talk)))
                self.assertEqual(client.running(), ("give", "a"))
            self.assert_turn(client.again(), (), [asked("give", ("a",), 2)])
            self.assert_turn(client.take(told("given", ("a",), 2)))
            self.assert_ended(client, ("given",))

    def test_a_give_without_a_view(self):
        client = risen()
        self.assert_turn(client.begin(("give", "b")), (), [asked("give", ("b",), 1)])
        client.take(told("given", ("b",), 1))
        self.assert_ended(client, ("given",))

    def test_a_give_waits_for_pending_writes(self):
        for name in ("a", "b"):
            client = leased("write", name)
            client.begin(("write", "a", ("take", "b")))
            client.take(done(1))
            leased("write", name, STAMP, "old", client)
            client = client.copy()
            first = client.begin(("hold", name, PUT))[1]
            self.assertEqual(first, (do(2, name, STAMP, PUT),))
            self.assertEqual(client.quick(name), ((5, 1, 2), "new"))
            self.assert_turn(client.begin(("give", name)))
            self.assertIsNone(client.quick(name))
            self.assert_turn(client.again(), (), first)
            self.assert_turn(client.take(done(2)), [("settled", 2)], [asked("give", (name,), 3)])
            self.assert_turn(client.again(), (), [asked("give", (name,), 3)])
            client.take(told("given", (name,), 3))
            self.assert_ended(client, ("given",))

    def test_both_names_of_a_take_are_named(self):
        for name, waits in [("a", True), ("b", True), ("c", False)]:
            client = risen([("a", None, ("take", "b"))])
            letters = [] if waits else [asked("give", (name,), 1)]
            self.assert_turn(client.begin(("give", name)), (), letters)
            if waits:
                self.assert_turn(client.take(done(1)), [("settled", 1)], [asked("give", (name,), 1)])


class Writes(Asking):
    def test_begin_to_end(self):
        for edit in [PUT, ("splice", 0, 0, ""), ("remove",), ("take", "b"), ("adopt", 1, 1), ("drop", 2, 3)]:
            for word, stamp in [("applied", (5, 1, 1)), ("aside", FIRST), ("unfit", FIRST), ("dropped", FIRST)]:
                client = risen()
                op = ("write", "a", edit)
                self.assert_turn(client.begin(op), [("write", "a", None, edit)], [do(1, "a", None, edit)])
                self.assertEqual(client.sheet(), (3, 1, ((1, "a", None, edit),)))
                self.assert_runs(client, op)
                self.assert_turn(client.again(), (), [do(1, "a", None, edit)])
                self.assert_turn(client.take(told("busy", ("a",), 0)))
                self.assert_runs(client, op)
                self.assert_turn(client.take(done(1, word, stamp)), [("settled", 1)])
                self.assert_ended(client, ("written", word, stamp))
                self.assertEqual(client.sheet(), (3, 1, ()))
                self.assert_turn(client.again())
                self.assert_turn(client.take(done(1, word, stamp)))
                self.assertEqual(client.sheet(), (3, 1, ()))

    def test_behind_pending_writes(self):
        client = risen([("a", None, PUT), ("b", STAMP, ("remove",))])
        self.assert_turn(client.begin(("write", "c", PUT)), [("write", "c", None, PUT)])
        self.assertEqual(client.sheet()[1:], (3, ((1, "a", None, PUT), (2, "b", STAMP, ("remove",)), (3, "c", None, PUT))))
        self.assert_turn(client.again(), (), [do(1, "a", None, PUT)])
        for number in (2, 3, 4, 100):
            self.assert_turn(client.take(done(number)))
        self.assert_turn(client.take(done(1)), [("settled", 1)], [do(2, "b", STAMP, ("remove",))])
        self.assert_turn(client.take(done(1)))
        self.assert_turn(client.take(done(2, "aside", FIRST)), [("settled", 2)], [do(3, "c", None, PUT)])
        self.assert_runs(client, ("write", "c", PUT))
        self.assert_turn(client.take(done(3, "applied", (8, 1, 3))), [("settled", 3)])
        self.assert_ended(client, ("written", "applied", (8, 1, 3)))

    def test_done_is_known_by_its_number_whatever_its_talk(self):
        for talk in [(3, 0), (0, 0), (2, 0), (9, 9)]:
            client = risen()
            client.begin(("write", "a", PUT))
            self.assert_turn(client.take(done(1, "applied", (1, 1, 1), talk)), [("settled", 1)])
            self.assert_ended(client, ("written", "applied", (1, 1, 1)))

    def test_done_while_nothing_or_something_else_runs(self):
        client = risen([("a", None, PUT)])
        self.assert_turn(client.take(done(1)), [("settled", 1)])
        self.assert_ended(client, None)
        client = risen([("a", None, PUT)])
        client.begin(("look", "b"))
        self.assert_turn(client.take(done(1)), [("settled", 1)])
        self.assert_runs(client, ("look", "b"))

    def test_numbers_go_on_from_the_sheet(self):
        client = risen((), 41)
        self.assert_turn(client.begin(("write", "a", PUT)), [("write", "a", None, PUT)], [do(42, "a", None, PUT)])

    def test_the_views_of_its_names_go(self):
        for edit, gone in [(PUT, "a"), (("take", "b"), "ab"), (("adopt", 1, 1), "a"), (("take", "c"), "ac")]:
            client = risen()
            for name in "abc":
                leased("write", name, STAMP, "old", client)
            client.begin(("write", "a", edit))
            for name in "abc":
                self.assertEqual(client.quick(name), None if name in gone else (STAMP, "old"))

    def test_a_client_from_a_sheet_with_pending_writes(self):
        client = Client(4, (6, 9, ((8, "a", STAMP, PUT), (9, "b", None, ("remove",)))))
        self.assert_turn(client.again(), (), [do(8, "a", STAMP, PUT, 4, 6)])
        self.assert_turn(client.begin(("names",)), (), [asked("names", (), 1, 4, 6)])
        self.assert_turn(client.again(), (), [do(8, "a", STAMP, PUT, 4, 6), asked("names", (), 1, 4, 6)])
        self.assert_turn(client.take(done(8, client=4)), [("settled", 8)], [do(9, "b", None, ("remove",), 4, 6)])


class Holds(Asking):
    def test_held(self):
        client = leased("write")
        turn = client.begin(("hold", "a", PUT))
        self.assert_turn(turn, [("write", "a", STAMP, PUT)], [do(1, "a", STAMP, PUT)])
        self.assert_ended(client, ("held", 1, (5, 1, 1)))
        self.assertEqual(client.quick("a"), ((5, 1, 1), "new"))
        turn = client.begin(("hold", "a", ("splice", 3, 0, "er")))
        self.assert_turn(turn, [("write", "a", (5, 1, 1), ("splice", 3, 0, "er"))])
        self.assert_ended(client, ("held", 2, (6, 1, 2)))
        turn = client.begin(("hold", "a", ("remove",)))
        self.assert_turn(turn, [("write", "a", (6, 1, 2), ("remove",))])
        self.assertEqual(client.quick("a"), ((7, 1, 3), None))
        self.assertEqual(client.sheet(), (3, 3, ((1, "a", STAMP, PUT), (2, "a", (5, 1, 1), ("splice", 3, 0, "er")),
                                                 (3, "a", (6, 1, 2), ("remove",)))))
        self.assert_turn(client.take(done(1, "applied", (5, 1, 1))), [("settled", 1)],
                         [do(2, "a", (5, 1, 1), ("splice", 3, 0, "er"))])
        self.assert_ended(client, ("held", 3, (7, 1, 3)))
        self.assertEqual(client.quick("a"), ((7, 1, 3), None))

    def test_held_on_no_file(self):
        client = leased("write", "a", FIRST, None)
        self.assert_turn(client.begin(("hold", "a", PUT)), [("write", "a", FIRST, PUT)], [do(1, "a", FIRST, PUT)])
        self.assert_ended(client, ("held", 1, (1, 1, 1)))

    def assert_refused(self, client, edit, name="a"):
        sheet, quick, letters = client.sheet(), client.quick(name), client.again()
        self.assert_turn(client.begin(("hold", name, edit)))
        self.assert_ended(client, ("refused",))
        self.assertEqual((client.sheet(), client.quick(name), client.again()), (sheet, quick, letters))

    def test_refused(self):
        self.assert_refused(risen(), PUT)
        self.assert_refused(leased("read"), PUT)
        self.assert_refused(leased("write"), PUT, "b")
        for edit in [("splice", 4, 0, ""), ("splice", 2, 2, ""), ("take", "b"), ("take", "a"), ("adopt", 1, 1),
                     ("drop", 1, 1), ("splice", 0, 0, "x" * 94)]:
            self.assert_refused(leased("write"), edit)
        for edit in [("splice", 0, 0, ""), ("remove",)]:
            self.assert_refused(leased("write", "a", STAMP, None), edit)
        client = leased("write")
        client.take(recall("a"))
        self.assert_refused(client, PUT)

    def test_trusted_for_two_ticks(self):
        for ticks in range(5):
            client = leased("write")
            for _ in range(ticks):
                client.tick()
            if ticks <= 2:
                client.begin(("hold", "a", PUT))
                self.assert_ended(client, ("held", 1, (5, 1, 1)))
            else:
                self.assert_refused(client, PUT)

    def test_a_hold_makes_no_view_younger(self):
        client = leased("write")
        client.tick()
        client.tick()
        client.begin(("hold", "a", PUT))
        self.assertEqual(client.quick("a"), ((5, 1, 1), "new"))
        client.tick()
        self.assertIsNone(client.quick("a"))
        self.assert_turn(client.again(), (), [do(1, "a", STAMP, PUT)])

    def test_a_write_ends_the_view_that_holds_go_on_from(self):
        client = leased("write")
        client.begin(("hold", "a", PUT))
        client.begin(("write", "a", ("remove",)))
        client.take(done(1))
        client.take(done(2))
        self.assert_refused(client, PUT)


class Flushes(Asking):
    def test_nothing_pending(self):
        client = risen()
        self.assert_turn(client.begin(("flush",)))
        self.assert_ended(client, ("flushed",))

    def test_until_nothing_is_pending(self):
        client = risen([("a", None, PUT), ("b", None, PUT)])
        self.assert_turn(client.begin(("flush",)))
        self.assert_runs(client, ("flush",))
        self.assert_turn(client.again(), (), [do(1, "a", None, PUT)])
        self.assert_turn(client.take(done(2)))
        self.assert_turn(client.take(done(1)), [("settled", 1)], [do(2, "b", None, PUT)])
        self.assert_runs(client, ("flush",))
        self.assert_turn(client.take(done(2, "unfit", FIRST)), [("settled", 2)])
        self.assert_ended(client, ("flushed",))


class Recalls(Asking):
    def test_at_once(self):
        for client in (leased("write"), leased("read")):
            self.assert_turn(client.take(recall("a")), (), [asked("give", ("a",), 2)])
            self.assertIsNone(client.quick("a"))
            self.assert_turn(client.again())
            self.assert_turn(client.take(told("given", ("a",), 2)))
            self.assert_ended(client, ("leased",) + client.result()[1:])

    def test_without_a_view_doubled_and_with_any_talk(self):
        client = risen()
        for k, talk in enumerate([(0, 0), (0, 0), (3, 1), (9, 9)], start=1):
            self.assert_turn(client.take(recall("a", talk)), (), [asked("give", ("a",), k)])

    def test_other_views_stay(self):
        client = leased("write", "b", STAMP, "old", leased("read"))
        client.take(recall("a"))
        self.assertIsNone(client.quick("a"))
        self.assertEqual(client.quick("b"), (STAMP, "old"))

    def test_while_a_pending_write_names_it(self):
        for edit, name in [(PUT, "a"), (("take", "b"), "a"), (("take", "b"), "b")]:
            client = risen([("z", None, PUT), ("a", None, edit), ("y", None, PUT)])
            self.assert_turn(client.take(recall(name)))
            self.assert_turn(client.take(recall(name)))
            self.assert_turn(client.take(done(1)), [("settled", 1)], [do(2, "a", None, edit)])
            self.assert_turn(client.take(done(2)), [("settled", 2)],
                             [do(3, "y", None, PUT), asked("give", (name,), 1)])
            self.assert_turn(client.take(done(3)), [("settled", 3)])

    def test_of_a_held_write(self):
        client = leased("write")
        client.begin(("hold", "a", PUT))
        self.assert_turn(client.take(recall("a")))
        self.assertIsNone(client.quick("a"))
        self.assert_turn(client.begin(("hold", "a", PUT)))
        self.assert_ended(client, ("refused",))
        self.assert_turn(client.take(done(1)), [("settled", 1)], [asked("give", ("a",), 2)])
        self.assert_turn(client.take(recall("b")), (), [asked("give", ("b",), 3)])

    def test_a_lease_of_this_name_that_runs(self):
        client = risen()
        client.begin(("lease", "a", "read"))
        client.tick()
        self.assert_turn(client.take(recall("a")), (), [asked("give", ("a",), 2), asked("lease", ("a", "read"), 3)])
        self.assert_turn(client.again(), (), [asked("lease", ("a", "read"), 3)])
        # What was granted ahead of the give no more counts.
        self.assert_turn(client.take(told("granted", ("a", "read", STAMP, "x"), 1)))
        self.assert_turn(client.take(told("granted", ("a", "read", STAMP, "x"), 2)))
        self.assert_runs(client, ("lease", "a", "read"))
        self.assertIsNone(client.quick("a"))
        self.assert_turn(client.take(told("busy", ("a",), 3)))
        self.assert_turn(client.take(told("granted", ("a", "read", STAMP, "y"), 3)))
        self.assert_ended(client, ("leased", "read", STAMP, "y"))
        for _ in range(2):
            client.tick()
            self.assertEqual(client.quick("a"), (STAMP, "y"))
        client.tick()
        self.assertIsNone(client.quick("a"))

    def test_a_lease_of_another_name_that_runs(self):
        client = risen()
        client.begin(("lease", "a", "read"))
        self.assert_turn(client.take(recall("b")), (), [asked("give", ("b",), 2)])
        self.assert_turn(client.take(told("granted", ("a", "read", STAMP, "x"), 1)))
        self.assert_ended(client, ("leased", "read", STAMP, "x"))

    def test_other_operations_of_this_name_that_run(self):
        for op, word, rest in [(("look", "a"), "told", ("a", STAMP, "x")), (("give", "a"), "given", ("a",)),
                               (("asides", "a"), "kept", ("a", ()))]:
            client = risen()
            client.begin(op)
            self.assert_turn(client.take(recall("a")), (), [asked("give", ("a",), 2)])
            self.assert_turn(client.take(told("given", ("a",), 2)))
            self.assert_runs(client, op)
            client.take(told(word, rest, 1))
            self.assertIsNone(client.running())

    def test_a_lease_that_waits(self):
        client = risen([("a", None, PUT)])
        client.begin(("lease", "a", "write"))
        self.assert_turn(client.take(recall("a")))
        self.assert_turn(client.take(done(1)), [("settled", 1)],
                         [asked("give", ("a",), 1), asked("lease", ("a", "write"), 2)])
        self.assert_turn(client.take(told("granted", ("a", "write", STAMP, "x"), 2)))
        self.assertEqual(client.quick("a"), (STAMP, "x"))

    def test_a_give_that_waits(self):
        client = risen([("a", None, PUT)])
        client.begin(("give", "a"))
        self.assert_turn(client.take(recall("a")))
        self.assert_turn(client.take(done(1)), [("settled", 1)], [asked("give", ("a",), 1), asked("give", ("a",), 2)])
        self.assert_turn(client.take(told("given", ("a",), 1)))
        self.assert_runs(client, ("give", "a"))
        client.take(told("given", ("a",), 2))
        self.assert_ended(client, ("given",))

    def test_the_order_of_what_is_written_behind_a_done(self):
        client = risen([("b", None, ("take", "a")), ("z", None, PUT)])
        client.begin(("lease", "b", "read"))
        for name in ("b", "z", "a"):
            self.assert_turn(client.take(recall(name)))
        self.assert_turn(client.take(done(1)), [("settled", 1)],
                         [do(2, "z", None, PUT), asked("give", ("a",), 1), asked("give", ("b",), 2),
                          asked("lease", ("b", "read"), 3)])
        self.assert_turn(client.take(done(2)), [("settled", 2)], [asked("give", ("z",), 4)])

    def test_nothing_is_called_back_when_a_client_rises(self):
        client = risen([("a", None, PUT)])
        client.take(recall("a"))
        client = Client(1, client.sheet())
        self.assert_turn(client.take(done(1)), [("settled", 1)])


class Again(Asking):
    def test_nothing_waits(self):
        for client in (risen(), leased("write")):
            self.assertEqual(client.again(), NOTHING)
        client = risen()
        client.take(recall("a"))
        self.assertEqual(client.again(), NOTHING)

    def test_the_write_ahead_of_the_operation(self):
        client = risen([("b", None, PUT)])
        client.begin(("lease", "a", "read"))
        for _ in range(3):
            self.assert_turn(client.again(), (), [do(1, "b", None, PUT), asked("lease", ("a", "read"), 1)])

    def test_a_tick_tells_nothing(self):
        client = risen()
        for _ in range(5):
            self.assertIsNone(client.tick())


class Copies(Asking):
    def test_copies_go_on_apart(self):
        client = leased("write")
        client.begin(("hold", "a", PUT))
        client.take(recall("b"))
        client.take(recall("a"))
        twin = client.copy()
        self.assertIsInstance(twin, Client)
        self.assertEqual((twin.sheet(), twin.result(), twin.cache()), (client.sheet(), client.result(), client.cache()))
        self.assert_turn(twin.take(done(1)), [("settled", 1)], [asked("give", ("a",), 3)])
        self.assertEqual(client.sheet()[2], ((1, "a", STAMP, PUT),))
        self.assert_turn(client.begin(("names",)), (), [asked("names", (), 3)])
        self.assertIsNone(twin.running())
        self.assert_turn(client.take(done(1)), [("settled", 1)], [asked("give", ("a",), 4)])

    def test_clocks_are_copied(self):
        fresh = risen().copy()
        self.assertEqual((fresh.again(), fresh.running(), fresh.result()), (NOTHING, None, None))
        client = leased("read")
        client.tick()
        client.tick()
        twin = client.copy()
        self.assertEqual(twin.quick("a"), (STAMP, "old"))
        twin.tick()
        self.assertIsNone(twin.quick("a"))
        self.assertEqual(client.quick("a"), (STAMP, "old"))
        client.begin(("lease", "b", "read"))
        twin = client.copy()
        twin.tick()
        twin.take(told("granted", ("b", "read", STAMP, "x"), 2))
        twin.tick()
        self.assertEqual(twin.quick("b"), (STAMP, "x"))
        twin.tick()
        self.assertIsNone(twin.quick("b"))

    def test_each_part_of_a_client_is_copied(self):
        client = leased("write", "a", STAMP, "old", leased("read", "b", FIRST, None))
        twin = client.copy()
        client.begin(("lease", "a", "write"))
        client.tick()
        client.tick()
        client.tick()
        self.assertEqual(twin.quick("a"), (STAMP, "old"))
        self.assertEqual(twin.quick("b"), (FIRST, None))
        self.assertIsNone(client.quick("b"))
        other = client.copy()
        other.take(told("granted", ("a", "write", (9, 9, 9), "x"), 3))
        self.assertEqual(other.cache(), (("a", (9, 9, 9), "x"),))
        self.assertEqual(client.cache(), (("a", STAMP, "old"),))
        self.assertEqual(client.running(), ("lease", "a", "write"))
        self.assert_turn(client.take(recall("a")), (), [asked("give", ("a",), 4), asked("lease", ("a", "write"), 5)])
        self.assertEqual(other.again(), NOTHING)
        self.assertEqual(twin.begin(("look", "a")), ((), (asked("look", ("a",), 3),)))


if __name__ == "__main__":
    unittest.main()
