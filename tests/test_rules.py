"""Points 2 to 4: what holds of all functions of the package."""

import unittest

from leasefiles import (
    basics, clients, days, disks, histories, letters, machines, serving, sheets, shop, tables, texts, values, world,
)
from leasefiles.errors import (
    BadText, LeaseError, NoArea, NoClient, NoDay, NoDeed, NoDisk, NoEdit, NoEvent, NoHistory, NoItems, NoKind, NoLetter,
    NoMachine, NoName, NoNote, NoNumber, NoNumbers, NoOp, NoPlaces, NoPolynomial, NoPrime, NoSheet, NoStamp, NoTable,
    NoText, NoThing, NoValues, Unfit,
)
from tests.samples import all_values, nested
from tests.worlds import after, client_state, leased, state

JUDGES = [basics.is_name, basics.is_text, basics.is_edit, basics.is_stamp, tables.is_table, tables.is_deed,
          letters.is_letter, sheets.is_sheet, sheets.is_note, histories.is_history]
# Each function of one argument with the one error that it may raise.
OTHERS = [(texts.packed, NoThing), (texts.unpacked, BadText), (texts.check, NoText), (texts.sealed, NoThing), (histories.right_order, NoHistory), (histories.bar, NoHistory),
          (machines.table_of, NoDisk), (machines.sheet_of, NoDisk)]


def on_disk(function):
    """A function that is handed a disk on which area 0 stands."""
    def call(*arguments):
        disk = disks.Disk()
        disks.opened(disk)
        return function(disk, *arguments)
    return call


def on_client(function):
    """A function that is handed a client that has a view and a pending write."""
    def call(*arguments):
        client = clients.Client(1, (1, 1, ((1, "b", None, ("remove",)),)))
        client.begin(("lease", "a", "write"))
        client.take((1, "server", (1, 1), "granted", ("a", "write", (1, 1, 1), "x")))
        told = outcome(function, client, *arguments)
        state = [client.sheet(), client.running(), client.result(), client.quick("a"), client.cache(), client.again()]
        if told[0] == "raised":
            # An operation that raises an error changes nothing.
            fresh = on_client(lambda client: client.copy())()
            assert state == [fresh.sheet(), fresh.running(), fresh.result(), fresh.quick("a"), fresh.cache(),
                             fresh.again()]
            raise told[1]()
        return told[1] if isinstance(told[1], clients.Client) else (told[1], state)
    return call


def on_world(function):
    """A function that is handed a world in which a view is trusted, a write is held, and client 3 is down."""
    def call(*arguments):
        handed = after(leased(3), ("do", 1, ("hold", "a", ("put", "x"))), ("do", 2, ("look", "a")), ("fall", 3))
        before = state(handed)
        told = outcome(function, handed, *arguments)
        if told[0] == "raised":
            # An operation that raises an error changes nothing.
            assert state(handed) == before
            raise told[1]()
        return (client_state(told[1]) if isinstance(told[1], clients.Client) else told[1], state(handed))
    return call


def on_shop(function):
    """A function that is handed a shop in which a write is held."""
    def call(*arguments):
        handed = shop.Shop(2)
        handed.lease(1, "a", "write")
        handed.hold(1, "a", ("put", "x"))
        before = state(handed.world())
        told = outcome(function, handed, *arguments)
        if told[0] == "raised":
            assert state(handed.world()) == before
            raise told[1]()
        return (told[1], state(handed.world()))
    return call


BARE = (0, (), (), (), ())
HISTORY = (("write", "a", 1, 0, 2), ("read", "a", 1, 1, 3))

# Functions and methods of several arguments: right arguments, and the error that is named for each.
CALLS = [
    (basics.edited, ("a", ("put", "b")), (NoText, NoEdit)),
    (on_disk(disks.Disk.area), (0,), (NoArea,)),
    (on_disk(disks.Disk.append), (1, "a", 1), (NoArea, NoText, NoNumber)),
    (on_disk(disks.Disk.clear), (0,), (NoArea,)),
    (on_disk(disks.Disk.shorten), (0, 0), (NoArea, NoNumber)),
    (on_disk(disks.noted), (1, 1), (NoItems, NoNumber)),
    (on_disk(disks.kept), ((1,), 1), (NoItems, NoNumber)),
    (disks.lines, ("a",), (NoText,)),
    (disks.rest, ("a",), (NoText,)),
    (tables.behind, (BARE, ("tick",)), (NoTable, NoDeed)),
    (tables.file_of, (BARE, "a"), (NoTable, NoName)),
    (serving.serve, (BARE, ("server", 1, (0, 1), "names", ())), (NoTable, NoLetter)),
    (sheets.noted_behind, ((0, 0, ()), ("boot",)), (NoSheet, NoNote)),
    (lambda *arguments: clients.Client(*arguments).again(), (1, (0, 0, ())), (NoClient, NoSheet)),
    (on_client(clients.Client.begin), (("hold", "a", ("put", "y")),), (NoOp,)),
    (on_client(clients.Client.take), ((1, "server", (0, 0), "recall", ("a",)),), (NoLetter,)),
    (on_client(clients.Client.quick), ("a",), (NoName,)),
    (values.values, (7, (1, 2), (3, 4)), (NoPrime, NoNumbers, NoPlaces)),
    (values.roots, (7, (1, 1), (0, 4)), (NoPrime, NoPolynomial, NoNumbers)),
    (values.difference, (7, (1, 2), 2, (3, 4), (1, 1), 2),
     (NoPrime, NoNumbers, NoNumber, NoPlaces, NoValues, NoNumber)),
    (values.number_of, ("a", (1, 1, 1)), (NoName, NoStamp)),
    (histories.is_right_order, (HISTORY, [0, 1]), (NoHistory,)),
    (histories.is_bar, (HISTORY, ("early", 1)), (NoHistory,)),
    (lambda *arguments: state(world.World(*arguments)), (2,), (NoNumber,)),
    (on_world(world.World.event), (("tick", 1),), (NoEvent,)),
    (on_world(world.World.sheet), (3,), (NoClient,)),
    (on_world(world.World.client), (1,), (NoClient,)),
    (on_world(world.World.disk), (3,), (NoMachine,)),
    (on_world(world.World.settle), (20000,), (NoNumber,)),
    (lambda *arguments: state(shop.Shop(*arguments).world()), (2,), (NoNumber,)),
    (on_shop(shop.Shop.write), (1, "a", ("put", "y")), (NoClient, NoName, NoEdit)),
    (on_shop(shop.Shop.hold), (1, "a", ("put", "y")), (NoClient, NoName, NoEdit)),
    (on_shop(shop.Shop.lease), (2, "a", "write"), (NoClient, NoName, NoKind)),
    (on_shop(shop.Shop.look), (2, "a"), (NoClient, NoName)),
    (on_shop(shop.Shop.give), (1, "a"), (NoClient, NoName)),
    (on_shop(shop.Shop.flush), (1,), (NoClient,)),
    (on_shop(shop.Shop.quick), (1, "a"), (NoClient, NoName)),
    (on_shop(shop.Shop.fall), (1,), (NoMachine,)),
]


def outcome(function, *arguments):
    """What a call returned, or the error that it raised, so that two outcomes can be compared."""
    try:
        return ("told", function(*arguments))
    except LeaseError as error:
        return ("raised", type(error), getattr(error, "place", None))


class Judging(unittest.TestCase):
    def test_flags_for_all_values(self):
        for judge in JUDGES:
            for value in all_values():
                self.assertIn(judge(value), (True, False))
                self.assertIsInstance(judge(value), bool)

    def test_flags_are_no_integers(self):
        for flag in (True, False):
            self.assertIs(basics.is_stamp((flag, flag, flag)), False)
            self.assertIs(basics.is_edit(("adopt", flag, 1)), False)
            self.assertIs(basics.is_edit(("splice", flag, 0, "")), False)
            with self.assertRaises(NoThing):
                texts.packed(flag)
            with self.assertRaises(NoThing):
                texts.packed((1, flag))

    def test_lists_are_no_tuples(self):
        self.assertIs(basics.is_stamp([1, 1, 1]), False)
        self.assertIs(basics.is_edit(["put", "a"]), False)
        with self.assertRaises(NoEdit):
            basics.edited("a", ["put", "b"])
        for thing in ([], [1], ([],), (1, [2])):
            with self.assertRaises(NoThing):
                texts.packed(thing)


class Errors(unittest.TestCase):
    def test_only_the_named_error_for_all_values(self):
        for function, error in OTHERS:
            for value in all_values():
                told = outcome(function, value)
                self.assertTrue(told[0] == "told" or told[1] is error, (function, told))
        for value in all_values():
            self.assertIsInstance(texts.unsealed(value), tuple)

    def test_arguments_are_checked_from_left_to_right(self):
        for text in all_values():
            for edit in all_values():
                if text is None or basics.is_text(text):
                    self.assertEqual(outcome(basics.edited, text, edit)[1], NoEdit)
                else:
                    self.assertEqual(outcome(basics.edited, text, edit)[1], NoText)
        self.assertEqual(outcome(basics.edited, None, ("remove",))[1], Unfit)

    def test_only_the_error_that_is_named_for_an_argument(self):
        for function, arguments, errors in CALLS:
            self.assertEqual(outcome(function, *arguments)[0], "told")
            for k, error in enumerate(errors):
                for value in all_values():
                    told = outcome(function, *arguments[:k], value, *arguments[k + 1:])
                    # What is right for this argument may make a later one wrong.
                    self.assertTrue(told[0] == "told" or told[1] in errors[k:] + (Unfit,), (function, k, told))
                    if isinstance(value, LeaseError):
                        self.assertEqual(told[1], error)

    def test_of_wrong_arguments_the_first_one_counts(self):
        wrong = LeaseError()
        for function, arguments, errors in CALLS:
            for k, error in enumerate(errors):
                many = len(arguments) - k
                self.assertEqual(outcome(function, *arguments[:k], *[wrong] * many)[1], error)
                for other in range(k + 1, len(arguments)):
                    handed = list(arguments)
                    handed[k] = handed[other] = wrong
                    self.assertEqual(outcome(function, *handed)[1], error)


    def test_days_of_all_values(self):
        for value in all_values():
            self.assertEqual(outcome(days.relived, value)[1], NoDay if isinstance(value, str) else NoText)


class Changes(unittest.TestCase):
    def test_nothing_handed_in_is_changed(self):
        for function in JUDGES + [function for function, _ in OTHERS] + [texts.unsealed]:
            for value in all_values():
                shown = repr(value)
                outcome(function, value)
                self.assertEqual(repr(value), shown)
        for value in all_values():
            shown = repr(value)
            outcome(basics.edited, value, value)
            outcome(basics.edited, "a", value)
            self.assertEqual(repr(value), shown)
        for function, arguments, _ in CALLS:
            for k in range(len(arguments)):
                for value in all_values():
                    shown = repr((arguments, value))
                    outcome(function, *arguments[:k], value, *arguments[k + 1:])
                    self.assertEqual(repr((arguments, value)), shown)

    def test_equal_calls_give_equal_results(self):
        for function in JUDGES + [function for function, _ in OTHERS] + [texts.unsealed]:
            for value, again in zip(all_values(), all_values()):
                self.assertEqual(outcome(function, value), outcome(function, again))
        for edit in [("put", "b"), ("splice", 1, 0, "c"), ("remove",), ("splice", 9, 9, "")]:
            self.assertEqual(outcome(basics.edited, "a", edit), outcome(basics.edited, "a", edit))
        for function, arguments, _ in CALLS:
            self.assertEqual(outcome(function, *arguments), outcome(function, *arguments))


class Depth(unittest.TestCase):
    def test_no_call_raises_recursion_error(self):
        for kind in (list, tuple, dict):
            value = nested(kind, 30)
            for function in JUDGES + [function for function, _ in OTHERS] + [texts.unsealed]:
                outcome(function, value)
                outcome(function, ("put", value))
            for function, arguments, _ in CALLS:
                for k in range(len(arguments)):
                    outcome(function, *arguments[:k], value, *arguments[k + 1:])
                    outcome(function, *arguments[:k], (value, value), *arguments[k + 1:])
        for text in ("(" * 20000, "(1," * 6000, "~" * 20000, "'~" * 10000, "-" * 20000, "(" * 19000 + "#5"):
            outcome(texts.unpacked, text)
            outcome(texts.unsealed, text)
            outcome(texts.check, text)


if __name__ == "__main__":
    unittest.main()
