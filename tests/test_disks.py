"""Point 7: disks, their areas, lines and items."""

import random
import unittest

from leasefiles.disks import Disk, kept, lines, noted, opened, rest, standing
from leasefiles.errors import NoArea, NoItems, NoNumber, NoStand, NoText
from leasefiles.texts import check, sealed
from tests.samples import PLAIN_SIGNS, all_values, nested, not_strings, package_objects

NO_AREAS = [-1, 2, 3, True, False, None, "0", "", (0,), [0], {}, 10 ** 29, -(10 ** 29)]
NO_MOSTS = [-1, True, False, "0", "None", (0,), [1], {}, -(10 ** 29)]
OTHER_SIGNS = [chr(31), chr(127), chr(233), "\t", "\r", "\0"]


def text_of(*entries):
    """The text of the lines of entries, straight from what the point says of lines."""
    text = ""
    for entry in entries:
        text += sealed((check(text), entry)) + "\n"
    return text


def disk_of(first, second=""):
    disk = Disk()
    disk.append(0, first, None)
    disk.append(1, second, None)
    return disk


def areas(disk):
    return (disk.area(0), disk.area(1))


def standing_text(generation, *items):
    return text_of(("area", generation), ("whole",), *[("item", item) for item in items])


class Areas(unittest.TestCase):
    def test_a_new_disk_is_empty(self):
        self.assertEqual(areas(Disk()), ("", ""))

    def test_append_writes_behind(self):
        disk = Disk()
        self.assertEqual(disk.append(0, "ab", None), 2)
        self.assertEqual(disk.append(0, "c\n", None), 2)
        self.assertEqual(disk.append(1, PLAIN_SIGNS, None), 95)
        self.assertEqual(disk.append(1, "", None), 0)
        self.assertEqual(areas(disk), ("abc\n", PLAIN_SIGNS))

    def test_append_most(self):
        for most, written in [(None, 4), (0, 0), (1, 1), (3, 3), (4, 4), (5, 4), (10 ** 29, 4)]:
            disk = disk_of("x")
            self.assertEqual(disk.append(0, "a\nbc", most), written)
            self.assertEqual(disk.area(0), "x" + "a\nbc"[:written])
        self.assertEqual(Disk().append(0, "", 0), 0)

    def test_clear_and_shorten(self):
        disk = disk_of("abc", "de\n")
        self.assertIsNone(disk.clear(0))
        self.assertEqual(areas(disk), ("", "de\n"))
        self.assertIsNone(disk.shorten(1, 3))
        self.assertEqual(areas(disk), ("", "de\n"))
        self.assertIsNone(disk.shorten(1, 1))
        self.assertEqual(areas(disk), ("", "d"))
        self.assertIsNone(disk.shorten(1, 0))
        self.assertIsNone(disk.shorten(0, 0))
        self.assertEqual(areas(disk), ("", ""))

    def test_long_areas(self):
        disk = Disk()
        for _ in range(5):
            disk.append(1, "x" * 20000, None)
        self.assertEqual(disk.area(1), "x" * 100000)
        disk.shorten(1, 99999)
        self.assertEqual(len(disk.area(1)), 99999)

    def test_each_method_is_of_the_class_itself(self):
        for name in ("area", "append", "clear", "shorten", "copy", "__eq__"):
            self.assertIn(name, vars(Disk))

    def assert_fails(self, error, disk, method, *arguments):
        before = areas(disk)
        with self.assertRaises(error, msg=arguments) as caught:
            getattr(disk, method)(*arguments)
        self.assertIs(type(caught.exception), error)
        self.assertEqual(areas(disk), before)

    def test_no_areas(self):
        for k in NO_AREAS + package_objects():
            disk = disk_of("ab", "c")
            self.assert_fails(NoArea, disk, "area", k)
            self.assert_fails(NoArea, disk, "append", k, "x", None)
            self.assert_fails(NoArea, disk, "clear", k)
            self.assert_fails(NoArea, disk, "shorten", k, 0)
        for k in all_values():
            if k not in (0, 1) or k in (True, False) and isinstance(k, bool):
                self.assert_fails(NoArea, disk_of("a"), "area", k)

    def test_no_texts(self):
        for text in not_strings() + OTHER_SIGNS + ["a" + sign for sign in OTHER_SIGNS] + ["a" + OTHER_SIGNS[1] + "\n"]:
            for k in (0, 1):
                self.assert_fails(NoText, disk_of("ab", "c"), "append", k, text, None)

    def test_no_mosts(self):
        for most in NO_MOSTS + package_objects():
            self.assert_fails(NoNumber, disk_of("ab"), "append", 0, "x", most)

    def test_shorten_beyond(self):
        for many in NO_MOSTS + [4, 5, 10 ** 29, None] + package_objects():
            self.assert_fails(NoNumber, disk_of("abc", "abcdef"), "shorten", 0, many)
        self.assert_fails(NoNumber, Disk(), "shorten", 0, 1)

    def test_the_first_wrong_argument_counts(self):
        self.assert_fails(NoArea, disk_of("a"), "append", 2, 5, -1)
        self.assert_fails(NoArea, disk_of("a"), "append", True, "x", -1)
        self.assert_fails(NoText, disk_of("a"), "append", 0, None, -1)
        self.assert_fails(NoText, disk_of("a"), "append", 1, "\t", True)
        self.assert_fails(NoArea, disk_of("a"), "shorten", -1, -1)
        self.assert_fails(NoArea, disk_of("a"), "shorten", None, 2)


class Copies(unittest.TestCase):
    def test_equal_and_unequal(self):
        self.assertTrue(Disk() == Disk())
        self.assertFalse(Disk() != Disk())
        self.assertTrue(disk_of("a\n", "b") == disk_of("a\n", "b"))
        for first, second in [("", "b"), ("a\n", ""), ("b", "a\n"), ("a", "b"), ("a\n", "b ")]:
            self.assertFalse(disk_of("a\n", "b") == disk_of(first, second))
            self.assertTrue(disk_of("a\n", "b") != disk_of(first, second))

    def test_equal_however_they_came_to_be_so(self):
        one, other = disk_of(standing_text(0, 1), "x"), disk_of(standing_text(0, 1), "y")
        lines_read = standing(one)
        other.clear(1)
        other.append(1, "xyz", 1)
        self.assertEqual(lines_read, 0)
        self.assertTrue(one == other)

    def test_with_what_is_no_disk(self):
        for thing in [value for value in all_values() if not isinstance(value, Disk)] + [("", ""), ["", ""]]:
            self.assertIs(Disk() == thing, False)
            self.assertIs(thing == Disk(), False)
            self.assertIs(Disk() != thing, True)

    def test_a_copy_goes_on_apart(self):
        disk = disk_of(standing_text(0, 5), "x")
        opened(disk)
        twin = disk.copy()
        self.assertTrue(twin == disk)
        noted(twin, 6, None)
        noted(disk, 7, None)
        noted(disk, 8, None)
        self.assertEqual(lines(twin.area(0))[2:], [("item", 5), ("item", 6)])
        self.assertEqual(lines(disk.area(0))[2:], [("item", 5), ("item", 7), ("item", 8)])
        self.assertEqual(opened(twin.copy()), [5, 6])
        disk.clear(0)
        self.assertEqual(opened(twin), [5, 6])
        twin.shorten(0, 0)
        self.assertEqual(areas(disk), ("", ""))


class Lines(unittest.TestCase):
    ENTRIES = [("area", 0), ("whole",), None, "it's ~#\\", 5, ("item", (1, ("a", None))), ()]

    def assert_counted(self, text, entries, signs):
        self.assertEqual(lines(text), entries)
        self.assertEqual(rest(text), signs)

    def test_no_lines(self):
        for text in ["", "\n", "\n\n", "x", "x\n", " \n", sealed((0, 1)), "#\n", "0#17\n", "(0,1)\n", "x" * 20000]:
            self.assert_counted(text, [], 0)

    def test_one_line(self):
        self.assert_counted("(0,5)#" + str(check("(0,5)")) + "\n", [5], 10)

    def test_lines_and_their_checks(self):
        first = sealed((0, ("area", 0))) + "\n"
        second = sealed((check(first), ("whole",))) + "\n"
        third = sealed((check(first + second), 7)) + "\n"
        text = first + second + third
        self.assert_counted(text, [("area", 0), ("whole",), 7], len(text))
        self.assert_counted(first + second, [("area", 0), ("whole",)], len(first + second))

    def test_all_entries(self):
        text = text_of(*self.ENTRIES)
        self.assert_counted(text, self.ENTRIES, len(text))

    def test_a_check_above_99991(self):
        text = text_of(*["x" * 96] * 30)
        self.assert_counted(text, ["x" * 96] * 30, len(text))

    def test_cut_anywhere(self):
        text = text_of(*self.ENTRIES)
        ends = [place + 1 for place, sign in enumerate(text) if sign == "\n"]
        for many in range(len(text) + 1):
            whole = [end for end in ends if end <= many]
            self.assert_counted(text[:many], self.ENTRIES[:len(whole)], whole[-1] if whole else 0)

    def test_no_line_feed_at_the_end(self):
        text = text_of(1, 2)
        self.assert_counted(text[:-1], [1], len(text_of(1)))

    def test_a_wrong_check_behind_right_ones(self):
        first = text_of(1, 2)
        for wrong in (0, check(first) + 1, check(first) - 1, check(first) + 99991, None, "x", (check(first),)):
            line = sealed((wrong, 3)) + "\n"
            self.assert_counted(first + line, [1, 2], len(first))
            follow = sealed((check(first + line), 4)) + "\n"
            self.assert_counted(first + line + follow, [1, 2], len(first))

    def test_a_first_line_with_a_check_that_is_not_0(self):
        self.assert_counted(sealed((1, 5)) + "\n", [], 0)
        self.assert_counted(sealed((99991, 5)) + "\n", [], 0)

    def test_things_that_are_no_pairs(self):
        for thing in [0, None, "x", (), (0,), (0, 1, 2), ((0, 1),), (None, 1), ("0", 1)]:
            self.assert_counted(sealed(thing) + "\n", [], 0)
            self.assert_counted(text_of(1) + sealed(thing) + "\n", [1], len(text_of(1)))

    def test_a_spoiled_sign(self):
        text = text_of(1, "ab", ("item", 3))
        ends = [len(text_of(1)), len(text_of(1, "ab")), len(text)]
        for place in range(len(text)):
            for sign in "x0~\n":
                if text[place] != sign:
                    told = [1, "ab", ("item", 3)][:len([end for end in ends if end <= place])]
                    self.assertEqual(lines(text[:place] + sign + text[place + 1:]), told)

    def test_exchanged_doubled_left_out(self):
        entries = [("area", 3), ("whole",), ("item", 1), ("item", 2)]
        parts = text_of(*entries).splitlines(True)
        for k in range(3):
            changed = parts[:k] + [parts[k + 1], parts[k]] + parts[k + 2:]
            self.assert_counted("".join(changed), entries[:k], len("".join(parts[:k])))
        for k in range(4):
            doubled = parts[:k + 1] + parts[k:]
            self.assert_counted("".join(doubled), entries[:k + 1], len("".join(parts[:k + 1])))
        for k in range(3):
            self.assert_counted("".join(parts[:k] + parts[k + 1:]), entries[:k], len("".join(parts[:k])))
        self.assert_counted("".join(parts[:3]), entries[:3], len("".join(parts[:3])))

    def test_blank_lines_between(self):
        text = text_of(1, 2)
        middle = len(text_of(1))
        self.assert_counted(text[:middle] + "\n" + text[middle:], [1], middle)
        self.assert_counted("\n" + text, [], 0)

    def test_deep_entries(self):
        entry = nested(tuple, 29)
        self.assert_counted(text_of(entry), [entry], len(text_of(entry)))

    def test_no_texts(self):
        for text in not_strings() + OTHER_SIGNS + [text_of(1) + OTHER_SIGNS[1]]:
            for function in (lines, rest):
                with self.assertRaises(NoText, msg=repr(text)) as caught:
                    function(text)
                self.assertIs(type(caught.exception), NoText)

    def test_what_is_told_is_new(self):
        text = text_of(1, 2)
        told = lines(text)
        told.append(3)
        self.assertEqual(lines(text), [1, 2])


class Standing(unittest.TestCase):
    STANDING = [(("area", 0), ("whole",)), (("area", 7), 5, ("item", 1), ("whole",)),
                (("area", 2), ("whole",), ("area", 9)), (("area", 10 ** 29), ("whole",), ("whole",))]
    FALLEN = [(), (("area", 0),), (("whole",),), (("area", 0), ("item", 1)), (("area", 0), ("whole", 1)),
              (("area", 0), "whole"), (("area", -1), ("whole",)), (("whole",), ("area", 0)),
              (("whole",), ("area", 0), ("whole",)), (("area",), ("whole",)), (("area", 0, 0), ("whole",)),
              (("area", None), ("whole",)), (("area", "0"), ("whole",)), (("area", (0,)), ("whole",)),
              (("item", 0), ("area", 0), ("whole",)), ("area", ("whole",)), (("area", 0), (("whole",),)),
              (("areas", 0), ("whole",)), (("item", 0), ("whole",))]

    def test_none(self):
        self.assertIsNone(standing(Disk()))
        self.assertIsNone(standing(disk_of("x\n", "(0")))
        for entries in self.FALLEN:
            self.assertIsNone(standing(disk_of(text_of(*entries))), entries)
            self.assertIsNone(standing(disk_of("", text_of(*entries))), entries)

    def test_a_flag_as_a_generation_is_no_line(self):
        for flag in ("True", "False"):
            head = "(0,('area'," + flag + "))"
            first = head + "#" + str(check(head)) + "\n"
            second = sealed((check(first), ("whole",))) + "\n"
            self.assertIsNone(standing(disk_of(first + second)))

    def test_one(self):
        for entries in self.STANDING:
            for other in [text_of(*fallen) for fallen in self.FALLEN] + ["x\n", text_of(*self.STANDING[0])[:-1]]:
                self.assertEqual(standing(disk_of(text_of(*entries), other)), 0, entries)
                self.assertEqual(standing(disk_of(other, text_of(*entries))), 1, entries)

    def test_of_two_the_greater_generation(self):
        for first, second, stands in [(0, 1, 1), (1, 0, 0), (9, 10, 1), (10, 9, 0), (5, 5, 0), (0, 0, 0)]:
            self.assertEqual(standing(disk_of(standing_text(first), standing_text(second))), stands)
            self.assertEqual(standing(disk_of(standing_text(first, 1), standing_text(second, 1, 2))), stands)

    def test_only_counted_lines_make_it_stand(self):
        text = text_of(("area", 5), 1, ("whole",))
        self.assertIsNone(standing(disk_of(text[:-1])))
        self.assertEqual(standing(disk_of(text + "x\n")), 0)
        self.assertEqual(standing(disk_of(text[:-1], standing_text(0))), 1)

    def test_nothing_is_changed(self):
        disk = disk_of("x", standing_text(0) + "y")
        standing(disk)
        self.assertEqual(areas(disk), ("x", standing_text(0) + "y"))


class Opened(unittest.TestCase):
    def test_none_stands(self):
        for first, second in [("", ""), ("x", "y\n"), (text_of(("area", 5)), ""), ("", standing_text(3, 1)[:20])]:
            disk = disk_of(first, second)
            self.assertEqual(opened(disk), [])
            self.assertEqual(areas(disk), (standing_text(0), ""))
            self.assertEqual(opened(disk), [])
            self.assertEqual(areas(disk), (standing_text(0), ""))

    def test_the_items_of_the_standing_area(self):
        text = text_of(("area", 4), ("item", 1), 7, ("whole",), ("item", ("a", None)), ("item",), ("item", 2, 3),
                       ("items", 4), "item", ("whole",), ("item", ()), ("area", 9), ("item", 1))
        for disk, stands in [(disk_of(text), 0), (disk_of("", text), 1), (disk_of(standing_text(3, 8), text), 1)]:
            self.assertEqual(opened(disk), [1, ("a", None), (), 1])
            self.assertEqual(disk.area(stands), text)
            self.assertEqual(disk.area(1 - stands), "")

    def test_torn_ends_are_struck(self):
        text = standing_text(2, 1)
        line = sealed((check(text), ("item", 2))) + "\n"
        for many in range(len(line)):
            for disk, stands in [(disk_of(text + line[:many], "x"), 0), (disk_of("x\n", text + line[:many]), 1)]:
                self.assertEqual(opened(disk), [1])
                self.assertEqual(disk.area(stands), text)
                self.assertEqual(disk.area(1 - stands), "")
                again = disk.copy()
                self.assertEqual(opened(again), [1])
                self.assertTrue(again == disk)
        for junk in ("\n", "x", "x\n" + line, line[:5] + "\n" + line, text):
            disk = disk_of(text + junk)
            self.assertEqual(opened(disk), [1])
            self.assertEqual(disk.area(0), text)

    def test_the_elder_area_is_emptied(self):
        disk = disk_of(standing_text(5, 1), standing_text(4, 2))
        self.assertEqual(opened(disk), [1])
        self.assertEqual(areas(disk), (standing_text(5, 1), ""))
        disk = disk_of(standing_text(5, 1), standing_text(5, 2))
        self.assertEqual(opened(disk), [1])
        self.assertEqual(areas(disk), (standing_text(5, 1), ""))

    def test_what_is_told_is_new(self):
        disk = disk_of(standing_text(0, 1, 2))
        told = opened(disk)
        told.append(3)
        told[0] = 9
        self.assertEqual(opened(disk), [1, 2])
        self.assertEqual(lines(disk.area(0))[2:], [("item", 1), ("item", 2)])
        noted(disk, 5, None)
        self.assertEqual(opened(disk), [1, 2, 5])


class Noted(unittest.TestCase):
    def test_noted_whole(self):
        disk = Disk()
        opened(disk)
        for k, item in enumerate([5, None, "a~'", (), ("grant", (1, 2)), nested(tuple, 28)]):
            line = sealed((check(disk.area(0)), ("item", item))) + "\n"
            before = disk.area(0)
            self.assertEqual(noted(disk, item, [None, len(line), len(line) + 1, 10 ** 29][k % 4]), len(line))
            self.assertEqual(areas(disk), (before + line, ""))
        self.assertEqual(opened(disk), [5, None, "a~'", (), ("grant", (1, 2)), nested(tuple, 28)])

    def test_noted_behind_area_1(self):
        disk = disk_of(standing_text(3), standing_text(4, 1))
        noted(disk, 2, None)
        self.assertEqual(areas(disk), (standing_text(3), standing_text(4, 1, 2)))

    def test_cut_at_each_number_of_signs(self):
        start = disk_of(standing_text(0, "a", ("b", 1)))
        whole = noted(start.copy(), ("c", (2, None)), None)
        for most in range(whole + 3):
            disk = start.copy()
            self.assertEqual(noted(disk, ("c", (2, None)), most), min(most, whole))
            items = ["a", ("b", 1)] + ([("c", (2, None))] if most >= whole else [])
            self.assertEqual(opened(disk), items, most)
            noted(disk, 7, None)
            self.assertEqual(opened(disk), items + [7])

    def test_no_items(self):
        wrong = [True, False, [], ["a"], {}, [1, (2,)], "\n", chr(127), 10 ** 30, -(10 ** 30), (1, [2]), (True,),
                 nested(tuple, 29), nested(tuple, 30), (nested(tuple, 28),), nested(list, 30)]
        for item in wrong + package_objects():
            disk = disk_of(standing_text(0, 1), "x")
            before = areas(disk)
            with self.assertRaises(NoItems) as caught:
                noted(disk, item, None)
            self.assertIs(type(caught.exception), NoItems)
            self.assertEqual(areas(disk), before)

    def test_items_of_28_tuples(self):
        disk = disk_of(standing_text(0))
        for item in (nested(tuple, 28), (nested(tuple, 27), 1), (1, (2, nested(tuple, 26)))):
            noted(disk, item, None)
        self.assertEqual(len(opened(disk)), 3)

    def test_no_mosts(self):
        for most in NO_MOSTS + package_objects():
            disk = disk_of(standing_text(0))
            for function, items in ((noted, 1), (kept, (1,))):
                with self.assertRaises(NoNumber):
                    function(disk, items, most)
                self.assertEqual(areas(disk), (standing_text(0), ""))

    def test_no_stand(self):
        for disk in (Disk(), disk_of("x", "y"), disk_of(text_of(("area", 0)))):
            before = areas(disk)
            for function, items in ((noted, 1), (kept, (1,)), (kept, ())):
                for most in (None, 0, 5):
                    with self.assertRaises(NoStand):
                        function(disk, items, most)
                    self.assertEqual(areas(disk), before)

    def test_the_first_wrong_argument_counts(self):
        for disk in (Disk(), disk_of(standing_text(0), "x")):
            before = areas(disk)
            for function, items in ((noted, [1]), (noted, True), (kept, [1]), (kept, ([1],)), (kept, 5)):
                with self.assertRaises(NoItems):
                    function(disk, items, -1)
            for function, items in ((noted, 1), (kept, (1,))):
                with self.assertRaises(NoNumber):
                    function(disk, items, True)
            self.assertEqual(areas(disk), before)


class Kept(unittest.TestCase):
    def newer(self, generation, *items):
        return text_of(("area", generation), *[("item", item) for item in items], ("whole",))

    def test_kept_whole(self):
        disk = disk_of(standing_text(0, 1, 2), "x")
        text = self.newer(1, 3, ("a",))
        self.assertEqual(kept(disk, (3, ("a",)), None), len(text))
        self.assertEqual(areas(disk), (standing_text(0, 1, 2), text))
        self.assertEqual(standing(disk), 1)
        self.assertEqual(opened(disk), [3, ("a",)])
        self.assertEqual(areas(disk), ("", text))
        noted(disk, 4, None)
        again = self.newer(2)
        self.assertEqual(kept(disk, (), len(again)), len(again))
        self.assertEqual(disk.area(0), again)
        self.assertEqual(opened(disk), [])
        self.assertEqual(areas(disk), (again, ""))

    def test_generations_of_the_standing_one(self):
        disk = disk_of(standing_text(6, 1), standing_text(9, 2))
        kept(disk, (5,), None)
        self.assertEqual(areas(disk), (self.newer(10, 5), standing_text(9, 2)))

    def test_cut_at_each_number_of_signs(self):
        start = disk_of(standing_text(3, "a"))
        items = ("b", ("c", 4))
        text = self.newer(4, *items)
        for most in range(len(text) + 3):
            disk = start.copy()
            self.assertEqual(kept(disk, items, most), min(most, len(text)))
            self.assertEqual(areas(disk), (standing_text(3, "a"), text[:most]))
            self.assertEqual(opened(disk), list(items) if most >= len(text) else ["a"], most)

    def test_cut_over_what_was_there(self):
        disk = disk_of(standing_text(3, 1), standing_text(2, 5))
        self.assertEqual(kept(disk, (9,), 0), 0)
        self.assertEqual(areas(disk), (standing_text(3, 1), ""))

    def test_no_items(self):
        wrong = [5, None, "ab", True, [], [1], {}, {"a": 1}, ([1],), (True,), (1, {}), ("\n",), (10 ** 30,),
                 (nested(tuple, 29),), (1, nested(tuple, 29)), nested(tuple, 30), (Disk(),), Disk(), nested(list, 30)]
        for items in wrong:
            disk = disk_of(standing_text(0, 1), "x")
            before = areas(disk)
            with self.assertRaises(NoItems) as caught:
                kept(disk, items, None)
            self.assertIs(type(caught.exception), NoItems)
            self.assertEqual(areas(disk), before)

    def test_items_of_28_tuples(self):
        disk = disk_of(standing_text(0))
        item = nested(tuple, 28)
        kept(disk, (item, (item[0], 1)), None)
        self.assertEqual(opened(disk), [item, (item[0], 1)])

    def test_noted_and_kept_again_and_again(self):
        disk = Disk()
        self.assertEqual(opened(disk), [])
        for k in range(60):
            noted(disk, ("deed", k), None)
            if k % 7 == 6:
                kept(disk, (k,), None)
                self.assertEqual(opened(disk), [k])
        self.assertEqual(opened(disk), [55, ("deed", 56), ("deed", 57), ("deed", 58), ("deed", 59)])
        fresh = disk_of(disk.area(0), disk.area(1))
        self.assertEqual(opened(fresh), opened(disk))

    def test_a_disk_tells_what_one_with_these_areas_tells(self):
        # Whatever a disk was asked ahead of it, its areas alone count.
        chance = random.Random(7)
        text = text_of(("area", 1), ("whole",), ("item", 1), ("item", 2))
        for _ in range(300):
            disk = Disk()
            for _ in range(12):
                k, most = chance.randrange(2), chance.choice([None, None, 5, 30, 60])
                choice = chance.randrange(6)
                if choice == 0:
                    disk.clear(k)
                elif choice == 1:
                    disk.shorten(k, chance.randrange(len(disk.area(k)) + 1))
                elif choice == 2 and standing(disk) is not None:
                    (noted if most else kept)(disk, (3,), most)
                elif choice == 3:
                    opened(disk)
                else:
                    done = rest(disk.area(k))
                    disk.append(k, text[done:], most)
                fresh = disk_of(disk.area(0), disk.area(1))
                self.assertEqual(standing(disk), standing(fresh))
                twin = disk.copy()
                self.assertEqual(opened(twin), opened(fresh))
                self.assertTrue(twin == fresh)


if __name__ == "__main__":
    unittest.main()
