"""Point 6: names, texts, edits, stamps, and what an edit makes of a text."""

import unittest

from leasefiles.basics import edited, is_edit, is_name, is_stamp, is_text
from leasefiles.errors import NoEdit, NoText, Unfit
from tests.samples import PLAIN_SIGNS, not_strings, package_objects

LONG = 10 ** 29

TEXT_EDITS = [
    ("put", ""), ("put", "a"), ("put", "x" * 96), ("put", PLAIN_SIGNS),
    ("splice", 0, 0, ""), ("splice", 3, 2, "new"), ("splice", LONG, LONG, "x" * 96), ("splice", 0, 1, " ~"),
    ("remove",),
]
OTHER_EDITS = [
    ("take", "a"), ("take", "abcdefgh"),
    ("adopt", 1, 1), ("adopt", 9, LONG), ("drop", 1, 1), ("drop", 9, LONG),
]
NO_EDITS = [
    (), ("",), ("none",), ("none", "a"), ("none", 1, 1), ("give", 1, 1), ("adopts", 1, 1), ("", 0, 0, ""),
    ("put",), ("splice",), ("take",), ("adopt",), ("drop",), ("Put", "a"), ("puts", "a"), ("takes", "a"),
    ("put ", "a"), (None, "a"), (("put",), "a"), (["put"], "a"), ({}, "a"), (1, "a"), (True,), ("a", "put"),
    ("put", "x" * 97), ("put", "a\n"), ("put", chr(127)), ("put", None), ("put", 1), ("put", ["a"]),
    ("put", "a", "b"), ("put", ("a",)), ["put", "a"], "put",
    ("splice", -1, 0, ""), ("splice", 0, -1, ""), ("splice", True, 0, ""), ("splice", 0, True, ""),
    ("splice", False, 0, ""), ("splice", 0, False, ""), ("splice", None, 0, ""), ("splice", 0, None, ""),
    ("splice", "0", 0, ""), ("splice", 0, "0", ""), ("splice", [0], 0, ""), ("splice", 0, (0,), ""),
    ("splice", 0, 0, None), ("splice", 0, 0, "x" * 97), ("splice", 0, 0, "\n"), ("splice", 0, 0, 0),
    ("splice", 0, 0), ("splice", 0, 0, "", ""), ["splice", 0, 0, ""],
    ("remove", "a"), ("remove", None), ("remove", ()), ["remove"], "remove", {"remove": 1},
    ("take", ""), ("take", "abcdefghi"), ("take", "A"), ("take", None), ("take", 1), ("take", ["a"]),
    ("take", "a", "b"), ["take", "a"],
] + [
    (word,) + rest
    for word in ("adopt", "drop")
    for rest in (
        (0, 1), (10, 1), (-1, 1), (1, 0), (1, -1), (True, 1), (1, True), (False, 1), (None, 1), (1, None),
        ("1", 1), (1, "1"), ((1,), 1), (1, [1]), (1,), (1, 1, 1),
    )
]


class Names(unittest.TestCase):
    def test_names(self):
        for name in ["a", "z", "ab", "zebra", "abcdefg", "abcdefgh"] + [chr(code) for code in range(97, 123)]:
            self.assertIs(is_name(name), True, name)

    def test_no_names(self):
        wrong = ["", "abcdefghi", "x" * 20000, "A", "Z", "aB", "a b", " a", "a ", "a1", "0", "a_b", "a-b", "`", "{",
                 "a`", "a{", "a\n", "\na", "\n", "~", "'"]
        for name in wrong:
            self.assertIs(is_name(name), False, name)

    def test_each_plain_sign_but_letters(self):
        for sign in PLAIN_SIGNS:
            self.assertIs(is_name("a" + sign + "z"), "a" <= sign <= "z", sign)

    def test_other_values(self):
        for thing in not_strings():
            self.assertIs(is_name(thing), False, thing)


class Texts(unittest.TestCase):
    def test_texts(self):
        for text in ["", " ", "~", "a", "x" * 95, "x" * 96, " " * 96, "~" * 96, PLAIN_SIGNS, "it's 50 #"]:
            self.assertIs(is_text(text), True, text)

    def test_too_long(self):
        for many in (97, 98, 20000):
            self.assertIs(is_text("x" * many), False)

    def test_signs_beyond(self):
        for sign in (chr(31), chr(127), chr(128), chr(233), "\n"):
            for text in (sign, "a" + sign, sign + "a", "a" + sign + "a"):
                self.assertIs(is_text(text), False, repr(text))

    def test_each_plain_sign(self):
        for sign in PLAIN_SIGNS:
            self.assertIs(is_text(sign), True, sign)

    def test_other_values(self):
        for thing in not_strings():
            self.assertIs(is_text(thing), False, thing)


class Stamps(unittest.TestCase):
    def test_stamps(self):
        for stamp in [(0, 0, 0), (1, 1, 1), (1, 9, 1), (2, 3, 4), (LONG, 9, LONG)]:
            self.assertIs(is_stamp(stamp), True, stamp)

    def test_those_like_the_first_one(self):
        for thing in [(0, 0, 1), (0, 1, 0), (1, 0, 0), (0, 1, 1), (1, 0, 1), (1, 1, 0), (False, 0, 0), (0, False, 0),
                      (0, 0, False), (False, False, False), (0, 0), (0, 0, 0, 0), [0, 0, 0], ((0, 0, 0),), (0,),
                      (None, 0, 0), ("", "", ""), ((), (), ()), "000"]:
            self.assertIs(is_stamp(thing), False, thing)

    def test_no_stamps(self):
        for thing in [(-1, 1, 1), (1, -1, 1), (1, 1, -1), (1, 10, 1), (1, 11, 1), (True, 1, 1), (1, True, 1),
                      (1, 1, True), (None, 1, 1), (1, None, 1), (1, 1, None), ("1", 1, 1), (1, "1", 1), (1, 1, "1"),
                      ((1,), 1, 1), (1, [1], 1), (1, 1, {}), (1, 1), (1, 1, 1, 1), [1, 1, 1], (1, (1, 1)), {1: 1}]:
            self.assertIs(is_stamp(thing), False, thing)

    def test_objects_within(self):
        for thing in package_objects():
            for stamp in ((thing, 1, 1), (1, thing, 1), (1, 1, thing), (thing, thing, thing)):
                self.assertIs(is_stamp(stamp), False)

    def test_other_values(self):
        for thing in not_strings() + ["", "a", "(0,0,0)"]:
            self.assertIs(is_stamp(thing), False, thing)


class Edits(unittest.TestCase):
    def test_edits(self):
        for edit in TEXT_EDITS + OTHER_EDITS:
            self.assertIs(is_edit(edit), True, edit)

    def test_each_client(self):
        for client in range(-2, 13):
            for word in ("adopt", "drop"):
                self.assertIs(is_edit((word, client, 1)), 1 <= client <= 9, client)

    def test_no_edits(self):
        for thing in NO_EDITS:
            self.assertIs(is_edit(thing), False, thing)

    def test_objects_within(self):
        for thing in package_objects():
            for edit in [(thing,), (thing, "a"), ("put", thing), ("splice", thing, 0, ""), ("splice", 0, thing, ""),
                         ("splice", 0, 0, thing), ("take", thing), ("adopt", thing, 1), ("drop", 1, thing)]:
                self.assertIs(is_edit(edit), False, edit)

    def test_other_values(self):
        for thing in not_strings() + ["", "put", "remove"]:
            self.assertIs(is_edit(thing), False, thing)


class Edited(unittest.TestCase):
    def test_put(self):
        for text in ("", "old", "x" * 96, None):
            for new in ("", "new", " ~", "put", "remove", "y" * 96):
                self.assertEqual(edited(text, ("put", new)), new)

    def test_remove(self):
        for text in ("", "old", "x" * 96):
            self.assertIsNone(edited(text, ("remove",)))

    def test_splice(self):
        for text, at, gone, other, made in [
            ("abcdef", 2, 3, "XY", "abXYf"), ("abc", 0, 0, "X", "Xabc"), ("abc", 1, 0, "XY", "aXYbc"),
            ("abc", 1, 1, "", "ac"), ("abc", 0, 3, "", ""), ("abc", 0, 3, "XY", "XY"), ("abc", 0, 0, "", "abc"),
            ("", 0, 0, "", ""), ("", 0, 0, "new", "new"), ("~ ~", 1, 1, "'", "~'~"),
            ("abc", 0, 3, "remove", "remove"), ("abc", 0, 1, "put", "putbc"),
        ]:
            self.assertEqual(edited(text, ("splice", at, gone, other)), made)

    def test_splice_just_to_the_end_and_beyond(self):
        self.assertEqual(edited("abc", ("splice", 3, 0, "X")), "abcX")
        self.assertEqual(edited("abc", ("splice", 2, 1, "X")), "abX")
        self.assertEqual(edited("abc", ("splice", 1, 2, "")), "a")
        for at, gone in [(3, 1), (4, 0), (2, 2), (0, 4), (1, 3), (4, 4), (0, LONG), (LONG, 0), (LONG, LONG)]:
            with self.assertRaises(Unfit, msg=(at, gone)):
                edited("abc", ("splice", at, gone, "X"))
        with self.assertRaises(Unfit):
            edited("", ("splice", 0, 1, ""))
        with self.assertRaises(Unfit):
            edited("", ("splice", 1, 0, ""))

    def test_splice_that_leaves_96_signs_and_97(self):
        full = "x" * 96
        self.assertEqual(edited("x" * 95, ("splice", 95, 0, "y")), "x" * 95 + "y")
        self.assertEqual(edited("x" * 50, ("splice", 20, 0, "y" * 46)), "x" * 20 + "y" * 46 + "x" * 30)
        self.assertEqual(edited(full, ("splice", 0, 0, "")), full)
        self.assertEqual(edited(full, ("splice", 10, 2, "yy")), "x" * 10 + "yy" + "x" * 84)
        self.assertEqual(edited(full, ("splice", 0, 96, "y" * 96)), "y" * 96)
        self.assertEqual(edited("", ("splice", 0, 0, "y" * 96)), "y" * 96)
        for text, at, gone, other in [
            (full, 0, 0, "y"), (full, 96, 0, "y"), (full, 5, 1, "yy"), ("x" * 50, 20, 0, "y" * 47),
            ("x", 0, 0, "y" * 96), (full, 0, 95, "y" * 96), (full, 0, 0, full),
        ]:
            with self.assertRaises(Unfit):
                edited(text, ("splice", at, gone, other))

    def test_on_none(self):
        self.assertEqual(edited(None, ("put", "new")), "new")
        self.assertEqual(edited(None, ("put", "")), "")
        for edit in [("remove",), ("splice", 0, 0, ""), ("splice", 0, 0, "new"), ("splice", 0, 1, "")]:
            with self.assertRaises(Unfit, msg=edit):
                edited(None, edit)

    def test_take_adopt_drop_are_no_edits_here(self):
        for edit in OTHER_EDITS:
            for text in ("old", "", None):
                with self.assertRaises(NoEdit, msg=edit):
                    edited(text, edit)

    def test_wrong_texts(self):
        wrong = [thing for thing in not_strings() if thing is not None]
        for text in wrong + ["x" * 97, "a\n", "\n", chr(31), chr(127), "x" * 20000]:
            for edit in [("put", "new"), ("remove",), ("splice", 0, 0, "")]:
                with self.assertRaises(NoText):
                    edited(text, edit)

    def test_wrong_edits(self):
        for edit in NO_EDITS + not_strings() + ["", "put", "remove", "x" * 20000]:
            for text in ("", "old", None):
                with self.assertRaises(NoEdit, msg=edit):
                    edited(text, edit)

    def test_the_first_wrong_argument_counts(self):
        for text in ("x" * 97, 1, True, [], {}, ("a",), "\n"):
            for edit in (None, (), ["remove"], ("take", "a"), ("splice", -1, 0, ""), ("splice", 9, 9, "")):
                with self.assertRaises(NoText):
                    edited(text, edit)

    def test_a_wrong_edit_comes_ahead_of_an_unfit_one(self):
        for text in (None, "abc"):
            for edit in [("splice", 4, 0, None), ("splice", 4, True, ""), ("splice", 9, 0, "x" * 97)]:
                with self.assertRaises(NoEdit):
                    edited(text, edit)


if __name__ == "__main__":
    unittest.main()
