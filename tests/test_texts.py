"""Point 8: things as texts, checks, and sealed texts."""

import itertools
import unittest

from leasefiles.errors import BadText, NoText, NoThing
from leasefiles.texts import check, packed, sealed, unpacked, unsealed
from tests.samples import PLAIN_SIGNS, mixed, nested, not_strings, package_objects, strings

NINES = 10 ** 30 - 1

PAIRS = [
    (0, "0"), (7, "7"), (-1, "-1"), (10, "10"), (-907, "-907"), (NINES, "9" * 30), (-NINES, "-" + "9" * 30),
    (10 ** 29, "1" + "0" * 29), (-(10 ** 29), "-1" + "0" * 29), (None, "."),
    ("", "''"), ("a", "'a'"), ("'", "'~''"), ("~", "'~~'"), ("~'", "'~~~''"), ("'~", "'~'~~'"), ("''", "'~'~''"),
    ("~~", "'~~~~'"), (" ", "' '"), ("it's 5~", "'it~'s 5~~'"), (".", "'.'"), ("()", "'()'"), ("a,b", "'a,b'"),
    ("0", "'0'"), ("a#1", "'a#1'"), ("x" * 20000, "'" + "x" * 20000 + "'"),
    ((), "()"), ((1,), "(1)"), ((1, 2), "(1,2)"), (((),), "(())"), (((), ()), "((),())"),
    ((None, "x", -1), "(.,'x',-1)"), (("(", ")", ","), "('(',')',',')"), ((1, (2, (3, ())), "~"), "(1,(2,(3,())),'~~')"),
    (("put", "a'b"), "('put','a~'b')"), ((0,) * 100, "(" + ",".join(["0"] * 100) + ")"),
    (nested(tuple, 30), "(" * 30 + ")" * 30), (((),) * 41, "(" + ",".join(["()"] * 41) + ")"),
]


def wrapped(thing, deep):
    for _ in range(deep):
        thing = (thing,)
    return thing


def kinds(thing):
    """The thing with the kinds of all its parts, since True == 1."""
    if isinstance(thing, tuple):
        return (tuple, [kinds(item) for item in thing])
    return (type(thing), thing)


def told_check(text):
    numbers = [0 if sign == "\n" else PLAIN_SIGNS.index(sign) + 1 for sign in text]
    return sum([place * number for place, number in enumerate(numbers, start=1)]) % 99991


class Packed(unittest.TestCase):
    def test_texts_of_things(self):
        for thing, text in PAIRS:
            self.assertEqual(packed(thing), text)

    def test_thirty_and_thirty_one_deep(self):
        for inner, text in [((), "()"), ((1,), "(1)"), ((None, "a"), "(.,'a')")]:
            self.assertEqual(packed(wrapped(inner, 29)), "(" * 29 + text + ")" * 29)
            for deep in (30, 31, 35):
                with self.assertRaises(NoThing):
                    packed(wrapped(inner, deep))
        self.assertEqual(packed(wrapped(5, 30)), "(" * 30 + "5" + ")" * 30)
        with self.assertRaises(NoThing):
            packed(wrapped(5, 31))
        with self.assertRaises(NoThing):
            packed((1, wrapped("a", 30)))

    def test_deep_ones_side_by_side(self):
        side = wrapped(1, 29)
        self.assertEqual(packed((side, side)), "(" + packed(side) + "," + packed(side) + ")")

    def test_integers_of_31_digits(self):
        for number in (10 ** 30, -(10 ** 30), NINES + 2, 10 ** 31):
            for thing in (number, (number,), (1, (2, number))):
                with self.assertRaises(NoThing):
                    packed(thing)

    def test_strings_of_other_signs(self):
        for sign in ("\n", chr(31), chr(127), chr(233)):
            for text in (sign, "a" + sign, sign + "a"):
                for thing in (text, (text,), (1, (text, 2))):
                    with self.assertRaises(NoThing):
                        packed(thing)

    def test_no_things(self):
        wrong = [True, False, [], ["a"], {}, {"a": 1}, [1, 2], nested(list, 30), nested(dict, 30), mixed(30)]
        for thing in wrong + package_objects():
            for value in (thing, (thing,), (1, thing), (thing, "a"), ((), (thing,))):
                with self.assertRaises(NoThing, msg=value):
                    packed(value)


class Unpacked(unittest.TestCase):
    def test_things_of_texts(self):
        for thing, text in PAIRS:
            self.assertEqual(kinds(unpacked(text)), kinds(thing))

    def test_thirty_deep(self):
        self.assertEqual(unpacked("(" * 30 + "5" + ")" * 30), wrapped(5, 30))
        self.assertEqual(unpacked("(" * 29 + "(),()" + ")" * 29), wrapped(((), ()), 28))

    def assert_bad(self, text, place):
        with self.assertRaises(BadText, msg=text) as caught:
            unpacked(text)
        self.assertEqual(kinds(caught.exception.place), kinds(place), text)

    def test_places_of_integers(self):
        for text, place in [
            ("-", 1), ("-0", 1), ("-00", 1), ("--1", 1), ("-a", 1), ("-.", 1), ("00", 1), ("007", 1), ("01", 1),
            ("0 ", 1), ("1a", 1), ("12-", 2), ("12-3", 2), ("+1", 0), ("1_0", 1), ("1.", 1), ("1 ", 1), (" 1", 0),
            ("0x1", 1), ("1e5", 1), ("1\n", 1), ("-1-", 2), ("(007)", 2), ("(-0)", 2), ("(1,00)", 4),
        ]:
            self.assert_bad(text, place)

    def test_places_of_the_31st_digit(self):
        self.assert_bad("9" * 31, 30)
        self.assert_bad("-" + "9" * 31, 31)
        self.assert_bad("1" + "0" * 40, 30)
        self.assert_bad("(" + "1" * 31 + ")", 31)
        self.assert_bad("(0,-" + "1" * 31 + ")", 34)
        self.assert_bad("0" * 31, 1)

    def test_places_of_strings(self):
        for text, place in [
            ("'", 1), ("'abc", 4), ("'a'b", 3), ("'~", 2), ("'~a'", 2), ("'~ ", 2), ("'~\n'", 2), ("'a\n'", 2),
            ("'\n'", 1), ("'''", 2), ("'~'", 3), ("'~~", 3), ("'~~''", 4), ("'" + chr(31) + "'", 1),
            ("'a" + chr(127) + "'", 2), ("'~" + chr(127) + "'", 2), ("'a''b'", 3), ('"a"', 0), ("a", 0), ("~", 0),
            ("('a)", 4), ("('a',~)", 5),
        ]:
            self.assert_bad(text, place)

    def test_places_of_tuples(self):
        for text, place in [
            ("(", 1), ("(1", 2), ("(1,", 3), ("(1,)", 3), ("(,1)", 1), ("(,)", 1), ("(1,,2)", 3), ("(1 2)", 2),
            ("(1, 2)", 3), ("( )", 1), ("(1;2)", 2), ("())", 2), ("(1)2", 3), ("()()", 2), (")", 0), (",", 0),
            ("(()", 3), ("((),", 4), ("(.'a')", 2), ("(1(2))", 2), ("[1]", 0), ("{}", 0), ("1,2", 1), ("(\n)", 1),
        ]:
            self.assert_bad(text, place)

    def test_places_of_none_and_other_signs(self):
        for text, place in [("", 0), (" ", 0), ("\n", 0), ("..", 1), (".1", 1), (". ", 1), ("None", 0), ("#", 0),
                            ("!", 0), ("/", 0), (":", 0), ("True", 0), (chr(127), 0), ("." + chr(31), 1)]:
            self.assert_bad(text, place)

    def test_places_of_deep_tuples(self):
        self.assert_bad("(" * 30, 30)
        self.assert_bad("(" * 31, 30)
        self.assert_bad("(" * 31 + ")" * 31, 30)
        self.assert_bad("(" * 30 + "()" + ")" * 30, 30)
        self.assert_bad("(" * 30 + "1," + "(" + ")" * 31, 32)
        self.assert_bad("(" * 30 + ")" * 29, 59)
        self.assert_bad("(" * 30 + ")" * 31, 60)
        self.assert_bad("(" * 20000, 30)

    def test_what_is_no_string(self):
        for thing in not_strings():
            self.assert_bad(thing, -1)

    def test_each_beginning_of_a_text_ends_too_soon_or_is_one(self):
        for _, text in PAIRS:
            for many in range(min(len(text), 300)):
                try:
                    self.assertEqual(packed(unpacked(text[:many])), text[:many])
                except BadText as error:
                    self.assertEqual(error.place, many)

    def test_all_short_texts(self):
        # A text can go on if one of these endings makes it the text of a thing.
        endings = [tail + ")" * many for tail in ("", "1", "'", "~'") for many in range(5)]

        def is_packed(text):
            try:
                return packed(unpacked(text)) == text
            except BadText:
                return False

        going = {""}
        for many in range(1, 5):
            for signs in itertools.product("019-.'~(,)a\n", repeat=many):
                text = "".join(signs)
                if text[:-1] in going and any(is_packed(text + ending) for ending in endings):
                    going.add(text)
                if is_packed(text):
                    self.assertIn(text, going)
                else:
                    bad = [place for place in range(many) if text[:place + 1] not in going]
                    self.assert_bad(text, bad[0] if bad else many)


class Facts(unittest.TestCase):
    def test_unpacked_packed_is_the_thing(self):
        for thing, _ in PAIRS:
            self.assertEqual(kinds(unpacked(packed(thing))), kinds(thing))

    def test_no_two_things_have_one_text(self):
        things = [0, 1, "0", "1", "", None, ".", (), "()", (0,), (0, 0), ((0,), 0), (0, (0,)), (((0, 0),),), "'", "''",
                  "~", "~~", "~'", "'~", ("",), ("", ""), ("a", "b"), ("a,b",), ("a','b",), (None,), ((),), (1, 0), 10]
        self.assertEqual(len({packed(thing) for thing in things}), len(things))


class Check(unittest.TestCase):
    def test_numbers_of_signs(self):
        self.assertEqual(check(""), 0)
        self.assertEqual(check("\n"), 0)
        self.assertEqual(check(" "), 1)
        self.assertEqual(check("!"), 2)
        self.assertEqual(check("~"), 95)
        for k, sign in enumerate(PLAIN_SIGNS):
            self.assertEqual(check(sign), k + 1)

    def test_places(self):
        self.assertEqual(check("  "), 3)
        self.assertEqual(check(" !"), 5)
        self.assertEqual(check("! "), 4)
        self.assertEqual(check("   "), 6)

    def test_line_feeds(self):
        self.assertEqual(check("\n "), 2)
        self.assertEqual(check(" \n"), 1)
        self.assertEqual(check(" \n "), 4)
        self.assertEqual(check("\n\n\n!"), 8)
        self.assertEqual(check("\n" * 20000), 0)

    def test_what_99991_leaves(self):
        for first, left in [("Y", 99990), ("Z", 0), ("[", 1)]:
            self.assertEqual(check(first + "~" * 44 + "D"), left)
        self.assertEqual(check("~" * 46), 2704)

    def test_long_texts(self):
        for text in strings() + [PLAIN_SIGNS * 3, PLAIN_SIGNS + "\n" + PLAIN_SIGNS, "~" * 20000, "a\n" * 500]:
            self.assertEqual(check(text), told_check(text))

    def test_no_texts(self):
        for thing in not_strings() + [chr(31), chr(127), chr(233), "a" + chr(127), chr(31) + "\n", "a\tb", "a\rb"]:
            with self.assertRaises(NoText, msg=repr(thing)):
                check(thing)


class Sealed(unittest.TestCase):
    def test_sealed(self):
        self.assertEqual(sealed(0), "0#17")
        self.assertEqual(sealed(None), ".#15")
        self.assertEqual(sealed(()), "()#29")
        for thing, text in PAIRS:
            self.assertEqual(sealed(thing), text + "#" + str(told_check(text)))

    def test_no_things(self):
        wrong = [True, False, [], {}, [1], {"a": 1}, "\n", chr(31), chr(127), 10 ** 30, -(10 ** 30), wrapped(1, 31)]
        for thing in wrong + package_objects():
            for value in (thing, (thing,)):
                with self.assertRaises(NoThing):
                    sealed(value)


class Unsealed(unittest.TestCase):
    def test_unsealed(self):
        for thing, _ in PAIRS + [("#", ""), ("'#17", ""), (("#", "a#b#"), ""), (("area", 0), "")]:
            self.assertEqual(kinds(unsealed(sealed(thing))), kinds((thing,)))

    def assert_unsealed_of_nothing(self, text):
        self.assertEqual(kinds(unsealed(text)), kinds(()), text)

    def test_a_check_that_is_not_written_so(self):
        for text in ["0#017", "0#0017", "0#+17", "0#-17", "0# 17", "0#17 ", "0#17\n", " 0#17", "0#17.", "0#1_7", "0#",
                     "0#" + str(17 + 99991), "0#18", "0#16", "0#1", "0#7", "0#71", "0##17", "0#17#17", "0", "0 17",
                     "#17", "#0", "#", "##", "", "17", "0#17.0", "0#'17'", "(0#17)", "\n0#17"]:
            self.assert_unsealed_of_nothing(text)

    def test_a_right_check_behind_the_text_of_no_thing(self):
        for head in ["", "-0", "007", "00", "(1,)", "( )", "1 ", " 1", "a", "'a", "'~a'", "(", ")", "1" * 31,
                     "-" + "1" * 31, "(" * 31 + ")" * 31, "(" * 30, "1\n", "'\n'", "#", "0#", "0#17", "..", "[]"]:
            self.assert_unsealed_of_nothing(head + "#" + str(told_check(head)))

    def test_other_signs(self):
        for sign in (chr(31), chr(127), chr(233)):
            for text in (sign, "'" + sign + "'#1", "0#17" + sign, sign + "0#17", sign + "#0"):
                self.assert_unsealed_of_nothing(text)

    def test_other_values(self):
        for thing in not_strings() + strings() + [("0#17",), ["0#17"], {"0#17": 1}, (0, "#", 17)]:
            self.assert_unsealed_of_nothing(thing)
        self.assert_unsealed_of_nothing("(" * 19990 + "#1")


class SealedAndSpoiled(unittest.TestCase):
    THINGS = [0, 7, -1, 12, NINES, None, "", "#", "a#1", "it's ~", (), (1, 2), ("item", ("tick",)), ((), ("~", "'")),
              (0, ("area", 0)), ("put", "#5#", None), (99990, 99991, "x,y"), (1, (2, (3, (4, "#4"))))]

    def test_one_sign_exchanged(self):
        for thing in self.THINGS:
            text = sealed(thing)
            for place in range(len(text)):
                for sign in PLAIN_SIGNS + "\n":
                    if sign != text[place]:
                        self.assertEqual(unsealed(text[:place] + sign + text[place + 1:]), (), (text, place, sign))

    def test_one_sign_left_out(self):
        for thing in self.THINGS:
            text = sealed(thing)
            for place in range(len(text)):
                self.assertEqual(unsealed(text[:place] + text[place + 1:]), (), (text, place))

    def test_cut_anywhere(self):
        for thing in self.THINGS:
            text = sealed(thing)
            for many in range(len(text)):
                self.assertEqual(unsealed(text[:many]), (), (text, many))

    def test_two_unlike_neighbours_exchanged(self):
        for thing in self.THINGS:
            text = sealed(thing)
            for place in range(len(text) - 1):
                first, second = text[place], text[place + 1]
                if first != second:
                    spoiled = text[:place] + second + first + text[place + 2:]
                    self.assertEqual(unsealed(spoiled), (), (text, place))

    def test_long_ones(self):
        text = sealed(("x" * 9000, "~'" * 3000))
        for place in range(0, len(text), 997):
            sign = "y" if text[place] != "y" else "z"
            self.assertEqual(unsealed(text[:place] + sign + text[place + 1:]), ())
        self.assertEqual(unsealed(text[:-1]), ())


if __name__ == "__main__":
    unittest.main()
