"""Point 15: tables and sheets on disks."""

import unittest

from leasefiles.disks import Disk, kept, lines, noted, opened
from leasefiles.errors import NoDisk, NoItem
from leasefiles.machines import noted_whole, sheet_of, table_of
from leasefiles.sheets import bare_sheet, noted_behind
from leasefiles.tables import bare_table, behind
from leasefiles.texts import check, sealed
from tests.samples import all_values
from tests.worlds import after, areas, delivered, done, leased

TABLE = (3, (("a", (1, 1, 1), "x"),), (("a", 2, "read", (0, 1), 9),), ((1, 1, "applied", (1, 1, 1)),), ())
DEEDS = [("apply", 1, 1, "a", (1, 1, 1), "x"), ("grant", "a", 2, "read", (0, 1)), ("tick",), ("rise",), ("unfit", 1, 2)]
SHEET = (2, 3, ((3, "a", None, ("put", "x")),))
NOTES = [("boot",), ("write", "a", None, ("put", "x")), ("settled", 1), ("write", "b", (1, 1, 1), ("remove",))]
# For each kind of machine: what tells its deeds, right ones, others, what nothing tells, and what leads on.
KINDS = [(table_of, DEEDS, NOTES, bare_table, behind), (sheet_of, NOTES, DEEDS, bare_sheet, noted_behind)]
NO_DEEDS = [None, 0, "tick", (), ("boots",), ("tick", 1), ("boot", 1), ("stand", None), ("stand",), (("tick",),),
            ("apply", 1, 1, "a", (1, 1, 1)), ("write", "a", None), ("settled", 0)]


def disk_with(*items):
    disk = Disk()
    opened(disk)
    for item in items:
        noted(disk, item, None)
    return disk


def led_on(first, step, deeds):
    told = first
    for deed in deeds:
        told = step(told, deed)
    return told


def standing_text(generation, *items):
    text = ""
    for entry in [("area", generation), ("whole",)] + [("item", item) for item in items]:
        text += sealed((check(text), entry)) + "\n"
    return text


class Deeds(unittest.TestCase):
    def test_without_items(self):
        for tell, _, _, bare, _ in KINDS:
            disk = disk_with()
            before = areas(disk)
            self.assertEqual(tell(disk), bare())
            self.assertEqual(areas(disk), before)

    def test_deeds_one_behind_another(self):
        for tell, deeds, _, bare, step in KINDS:
            for many in range(len(deeds) + 1):
                disk = disk_with(*deeds[:many])
                before = areas(disk)
                self.assertEqual(tell(disk), led_on(bare(), step, deeds[:many]))
                self.assertEqual(tell(disk), led_on(bare(), step, deeds[:many]))
                self.assertEqual(areas(disk), before)

    def test_the_first_deed_is_done_to_what_is_bare(self):
        self.assertEqual(table_of(disk_with(("tick",))), (1, (), (), (), ()))
        self.assertEqual(table_of(disk_with(("stand", TABLE), ("tick",))), behind(TABLE, ("tick",)))
        self.assertEqual(sheet_of(disk_with(("boot",))), (1, 0, ()))
        self.assertEqual(sheet_of(disk_with(("stand", SHEET), ("boot",))), (3, 3, SHEET[2]))

    def test_a_compacted_disk(self):
        disk = disk_with(*DEEDS)
        table = table_of(disk)
        kept(disk, (("stand", table),), None)
        self.assertEqual(table_of(disk), table)
        noted(disk, ("tick",), None)
        self.assertEqual(table_of(disk), behind(table, ("tick",)))
        disk = disk_with(*NOTES)
        sheet = sheet_of(disk)
        kept(disk, (("stand", sheet),), None)
        noted(disk, ("boot",), None)
        self.assertEqual(sheet_of(disk), noted_behind(sheet, ("boot",)))

    def test_compacted_behind_any_number_of_signs(self):
        for tell, deeds, _, bare, step in KINDS:
            told = led_on(bare(), step, deeds)
            many = kept(disk_with(*deeds), (("stand", told),), None)
            for most in range(many + 2):
                disk = disk_with(*deeds)
                kept(disk, (("stand", told),), most)
                self.assertEqual(tell(disk), told)
                self.assertEqual(disk.area(0 if most >= many else 1), "")


class Mending(unittest.TestCase):
    def test_torn_behind_the_last_whole_line(self):
        for tell, deeds, _, bare, step in KINDS:
            whole = disk_with(*deeds[:2])
            for most in range(noted(disk_with(*deeds[:2]), deeds[2], None)):
                disk = disk_with(*deeds[:2])
                noted(disk, deeds[2], most)
                self.assertEqual(tell(disk), led_on(bare(), step, deeds[:2]))
                self.assertEqual(areas(disk), areas(whole))

    def test_no_area_stands(self):
        for tell, _, _, bare, _ in KINDS:
            for first, second in [("", ""), ("x", ""), ("", "y\n"), (standing_text(0)[:-1], ""),
                                  (standing_text(0)[:5], standing_text(7)[:20])]:
                disk = Disk()
                disk.append(0, first, None)
                disk.append(1, second, None)
                self.assertEqual(tell(disk), bare())
                self.assertEqual(areas(disk), (standing_text(0), ""))

    def test_two_areas(self):
        for first, second, told in [(0, 1, 1), (5, 4, 0), (3, 3, 0), (9, 10, 1)]:
            disk = Disk()
            disk.append(0, standing_text(first, ("tick",), ("tick",)), None)
            disk.append(1, standing_text(second, ("tick",)), None)
            self.assertEqual(table_of(disk)[0], 1 if told == 1 else 2)
            self.assertEqual(disk.area(1 - told), "")


class Errors(unittest.TestCase):
    def assert_no_item(self, tell, items, index):
        disk = disk_with(*items)
        disk.append(0, "torn", None)
        disk.append(1, "other", None)
        before = areas(disk)
        with self.assertRaises(NoItem) as caught:
            tell(disk)
        self.assertIs(type(caught.exception), NoItem)
        self.assertEqual(caught.exception.index, index)
        # An operation that raises an error changes nothing, so the disk is not mended.
        self.assertEqual(areas(disk), before)

    def test_the_first_item_that_is_no_deed(self):
        for tell, deeds, others, _, _ in KINDS:
            for wrong in NO_DEEDS + others:
                for index in range(len(deeds) + 1):
                    self.assert_no_item(tell, deeds[:index] + [wrong] + deeds[index:], index)
            self.assert_no_item(tell, deeds[:2] + [None] + deeds[2:] + [0], 2)

    def test_stands_of_the_other_kind(self):
        self.assert_no_item(table_of, [("tick",), ("stand", SHEET)], 1)
        self.assert_no_item(sheet_of, [("boot",), ("stand", TABLE)], 1)

    def test_an_item_that_is_no_deed_behind_one_that_is_torn_does_not_count(self):
        disk = disk_with(("tick",))
        noted(disk, None, 9)
        self.assertEqual(table_of(disk)[0], 1)

    def test_no_disks(self):
        for tell in (table_of, sheet_of):
            for thing in [value for value in all_values() if not isinstance(value, Disk)] + [("", ""), [Disk()]]:
                with self.assertRaises(NoDisk) as caught:
                    tell(thing)
                self.assertIs(type(caught.exception), NoDisk)


class Noting(unittest.TestCase):
    def test_how_many_are_noted_whole(self):
        lengths = [noted(disk_with(*DEEDS[:k]), DEEDS[k], None) for k in range(3)]
        ends = [sum(lengths[:k]) for k in range(4)]
        whole = disk_with(*DEEDS[:3]).area(0)
        for most in range(ends[3] + 3):
            disk = disk_with()
            many = max(k for k in range(4) if ends[k] <= most)
            self.assertEqual(noted_whole(disk, tuple(DEEDS[:3]), most), many)
            self.assertEqual(disk.area(0), whole[:len(disk_with().area(0)) + most])
        disk = disk_with()
        self.assertEqual(noted_whole(disk, tuple(DEEDS[:3]), None), 3)
        self.assertEqual(disk.area(0), whole)
        self.assertEqual(noted_whole(disk, (), 0), 0)

    def test_deeds_are_noted_ahead_of_the_letters(self):
        world = leased()
        # The deed of the grant was on the server's disk when its letter was written, and is cut with the letter.
        self.assertIn(("item", ("grant", "a", 1, "write", (0, 1))), lines(world.disk(0).area(0)))
        after(world, ("do", 2, ("write", "b", ("put", "x"))))
        self.assertIn(("item", ("write", "b", None, ("put", "x"))), lines(world.disk(2).area(0)))
        self.assertEqual(len(world.bag()), 1)
        after(world, ("cut", 0, 10 ** 6))
        self.assertEqual(lines(world.disk(0).area(0))[-1], ("item", ("apply", 2, 1, "b", (1, 2, 1), "x")))
        self.assertEqual(world.bag(), [])

    def test_disks_of_a_world_tell_its_table_and_sheets(self):
        world = leased()
        done(world, 2, ("write", "b", ("put", "x")))
        delivered(after(world, ("do", 1, ("hold", "a", ("put", "y")))))
        after(world, ("do", 2, ("write", "b", ("remove",))), ("compact", 0, None), ("compact", 2, None), ("fall", 2))
        self.assertEqual(table_of(world.disk(0)), world.table())
        for c in (1, 2):
            self.assertEqual(sheet_of(world.disk(c)), world.sheet(c))
        self.assertEqual(world.sheet(2), (0, 2, ((2, "b", None, ("remove",)),)))


if __name__ == "__main__":
    unittest.main()
