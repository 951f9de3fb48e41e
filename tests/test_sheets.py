"""Point 12: a client's sheet, its deeds, and the sheet behind them."""

import unittest

from leasefiles.errors import NoNote, NoSheet
from leasefiles.sheets import bare_sheet, is_note, is_sheet, noted_behind
from tests.parts import RIGHT, WRONG, right, wrong
from tests.samples import all_values, package_objects

WRITE = ("number", "name", "base", "edit")
NOTES = {"boot": (), "write": ("name", "base", "edit"), "settled": ("number",)}
PENDING = ((3, "a", None, ("put", "x")), (4, "b", (2, 1, 2), ("remove",)), (5, "a", (0, 0, 0), ("take", "b")))
FULL = (2, 5, PENDING)
NO_SHEETS = [None, (), (0, 0), (0, 0, (), ()), [0, 0, ()], (-1, 0, ()), (0, -1, ()), (True, 0, ()), (0, False, ()),
             (None, 0, ()), (0, "0", ()), (0, 0, None), (0, 0, []), (0, 0, {}), (0, 0, ""), {}, "", 0, True]


def write(number):
    return (number, "a", None, ("put", "x"))


class Sheets(unittest.TestCase):
    def test_bare(self):
        self.assertEqual(bare_sheet(), (0, 0, ()))
        self.assertIs(is_sheet(bare_sheet()), True)
        self.assertIs(is_sheet(FULL), True)

    def test_boots_and_numbers(self):
        for boot in RIGHT["count"]:
            for number in RIGHT["count"]:
                self.assertIs(is_sheet((boot, number, ())), True)
        for count in WRONG["count"]:
            self.assertIs(is_sheet((count, 0, ())), False)
            self.assertIs(is_sheet((0, count, ())), False)

    def test_one_pending_write(self):
        for row in right(WRITE):
            self.assertIs(is_sheet((0, row[0], (row,))), True, row)
        for row in wrong(WRITE):
            number = row[0] if isinstance(row, tuple) and row else 1
            for told in (number, 1):
                self.assertIs(is_sheet((0, told, (row,))), False, row)

    def test_numbers_of_pending_writes(self):
        for last, numbers, told in [
            (1, (1,), True), (2, (1, 2), True), (9, (7, 8, 9), True), (9, (9,), True), (9, (), True),
            (2, (1,), False), (1, (2,), False), (9, (7, 9), False), (9, (7, 8), False), (9, (8, 9, 10), False),
            (9, (9, 8), False), (8, (9, 8), False), (9, (8, 8, 9), False), (9, (8, 9, 9), False), (9, (9, 9), False),
            (0, (1,), False), (0, (0,), False), (1, (0, 1), False), (10, (7, 8, 9), False), (9, (6, 8, 9), False),
        ]:
            self.assertIs(is_sheet((0, last, tuple([write(number) for number in numbers]))), told, (last, numbers))
        self.assertIs(is_sheet((0, 1, (write(True),))), False)

    def test_lists_for_tuples(self):
        self.assertIs(is_sheet([2, 5, PENDING]), False)
        self.assertIs(is_sheet((2, 5, list(PENDING))), False)
        self.assertIs(is_sheet((2, 5, PENDING[:2] + (list(PENDING[2]),))), False)
        self.assertIs(is_sheet((2, 5, PENDING[2])), False)

    def test_no_sheets(self):
        for thing in NO_SHEETS + all_values():
            self.assertIs(is_sheet(thing), False, thing)


class Notes(unittest.TestCase):
    def test_each_word(self):
        for word, form in NOTES.items():
            for parts in right(form):
                self.assertIs(is_note((word,) + parts), True, (word, parts))
            for parts in wrong(form):
                thing = (word,) + parts if isinstance(parts, tuple) else (word, parts)
                self.assertIs(is_note(thing), False, thing)
            self.assertIs(is_note([word] + list(right(form)[0])), False)

    def test_stand(self):
        for sheet in (bare_sheet(), FULL):
            self.assertIs(is_note(("stand", sheet)), True)
            self.assertIs(is_note(("stand", sheet, sheet)), False)
            self.assertIs(is_note(("stand",) + sheet), False)
        for sheet in NO_SHEETS:
            self.assertIs(is_note(("stand", sheet)), False, sheet)
        self.assertIs(is_note(("stand",)), False)

    def test_other_words(self):
        for word in ["", "Boot", "boots", "tick", "rise", "grant", "held", "done", None, 1, True, ("boot",)]:
            for parts in [(), ("a", None, ("remove",)), (1,), (FULL,)]:
                self.assertIs(is_note((word,) + parts), False, (word, parts))

    def test_other_values(self):
        for thing in all_values() + ["boot", ["boot"], {"boot": ()}]:
            self.assertIs(is_note(thing), False, thing)
        for thing in package_objects():
            for note in [(thing,), ("boot", thing), ("settled", thing), ("write", thing, None, ("remove",)),
                         ("stand", thing)]:
                self.assertIs(is_note(note), False)


class Behind(unittest.TestCase):
    def test_boot(self):
        self.assertEqual(noted_behind(bare_sheet(), ("boot",)), (1, 0, ()))
        self.assertEqual(noted_behind(FULL, ("boot",)), (3, 5, PENDING))

    def test_write(self):
        for name, base, edit in [("a", None, ("put", "")), ("b", (1, 1, 1), ("drop", 1, 1)),
                                 ("c", (0, 0, 0), ("take", "a"))]:
            self.assertEqual(noted_behind(bare_sheet(), ("write", name, base, edit)), (0, 1, ((1, name, base, edit),)))
            self.assertEqual(noted_behind((7, 4, ()), ("write", name, base, edit)), (7, 5, ((5, name, base, edit),)))
            self.assertEqual(noted_behind(FULL, ("write", name, base, edit)),
                             (2, 6, PENDING + ((6, name, base, edit),)))

    def test_settled(self):
        self.assertEqual(noted_behind(FULL, ("settled", 3)), (2, 5, PENDING[1:]))
        for number in (1, 2, 4, 5, 6, 100):
            self.assertEqual(noted_behind(FULL, ("settled", number)), FULL)
        self.assertEqual(noted_behind((2, 5, PENDING[2:]), ("settled", 5)), (2, 5, ()))
        for number in (1, 4, 5, 6):
            self.assertEqual(noted_behind((2, 5, ()), ("settled", number)), (2, 5, ()))
        self.assertEqual(noted_behind(bare_sheet(), ("settled", 1)), bare_sheet())

    def test_stand(self):
        self.assertEqual(noted_behind(FULL, ("stand", bare_sheet())), bare_sheet())
        self.assertEqual(noted_behind(bare_sheet(), ("stand", FULL)), FULL)

    def test_it_is_a_sheet(self):
        for word, form in NOTES.items():
            for parts in right(form):
                for sheet in (bare_sheet(), FULL, (2, 5, PENDING[2:])):
                    self.assertIs(is_sheet(noted_behind(sheet, (word,) + parts)), True)

    def test_no_sheets_and_no_notes(self):
        for sheet in NO_SHEETS + package_objects():
            for note in [("boot",), ("tick",), None, ["boot"]]:
                with self.assertRaises(NoSheet) as caught:
                    noted_behind(sheet, note)
                self.assertIs(type(caught.exception), NoSheet)
        for note in [None, (), ("tick",), ["boot"], ("boot", 1), ("settled", 0), ("stand", None)] + all_values():
            with self.assertRaises(NoNote) as caught:
                noted_behind(FULL, note)
            self.assertIs(type(caught.exception), NoNote)


if __name__ == "__main__":
    unittest.main()
