"""Point 10: letters to the server and to clients."""

import unittest

from leasefiles.letters import is_letter
from tests.parts import RIGHT, WRONG, right, wrong
from tests.samples import all_values, package_objects

FIRST = (0, 0, 0)
TO_SERVER = {
    "look": ("name",),
    "names": (),
    "asides": ("name",),
    "lease": ("name", "kind"),
    "give": ("name",),
    "do": ("number", "name", "base", "edit"),
}
TO_CLIENT = {
    "told": ("name", "stamp", "text"),
    "granted": ("name", "kind", "stamp", "text"),
    "given": ("name",),
    "busy": ("name",),
    "done": ("number", "word", "stamp"),
    "recall": ("name",),
}
INTEGERS = [(), (0,), (1,), (0, 0, 0), (2 ** 89, 5), (10 ** 30 - 1,), tuple(range(64)), (7,) * 65]
NO_INTEGERS = [(7,) * 66, tuple(range(100)), (-1,), (1, -1), (1, True), (False,), (None,), ("1",), ((1,),), [1], [],
               None, 1, "", {}]
MANYS = [1, 2, 63, 64]
NO_MANYS = [0, 65, -1, 10 ** 11, True, None, "1", (1,), [2]]
NAMES = [(), ("a",), ("a", "b"), ("a", "aa", "ab", "b"), ("abcdefgh", "z")]
NO_NAMES = [("b", "a"), ("a", "a"), ("a", "b", "b"), ("aa", "a"), ("",), ("A",), (1,), ("a", None), (("a",),), ["a"],
            [], "a", None, 0]
ASIDES = [
    (), ((1, 1, None, ("put", "")),), ((9, 7, FIRST, ("take", "b")),),
    ((1, 1, None, ("remove",)), (1, 2, FIRST, ("put", "x")), (2, 1, (1, 1, 1), ("drop", 1, 1))),
    ((1, 2, (9, 9, 9), ("remove",)), (2, 1, None, ("put", ""))),
]
NO_ASIDES = [
    ((1, 2, None, ("remove",)), (1, 1, None, ("remove",))), ((2, 1, None, ("remove",)), (1, 2, None, ("remove",))),
    ((1, 1, None, ("remove",)),) * 2, ((1, 1, FIRST, ("remove",)),) * 2,
    ((1, 1, None, ("remove",)), (1, 1, FIRST, ("remove",))), ((1, 1, FIRST, ("remove",)), (1, 1, None, ("remove",))),
    ((1, 1, (2, 1, 1), ("remove",)), (1, 1, FIRST, ("remove",))),
    ((1, 1, None, ("remove",)), (2, 1, None, ("remove",)), (1, 2, None, ("remove",))),
    [(1, 1, None, ("remove",))], ([1, 1, None, ("remove",)],), [], None, "", 0, (1, 1, None, ("remove",)),
    ((1, 1, "a", None, ("remove",)),), ((1, 1, None),), ((0, 1, None, ("remove",)),), ((10, 1, None, ("remove",)),),
    ((1, 0, None, ("remove",)),), ((1, True, None, ("remove",)),), ((1, 1, 0, ("remove",)),),
    ((1, 1, (0, 0, 1), ("remove",)),), ((1, 1, None, ["remove"]),), ((1, 1, None, None),),
]
FILES = [(), (("a", FIRST, None),), (("a", (1, 1, 1), "x" * 96), ("b", (2, 9, 1), None)),
         (("a", (9, 9, 9), ""), ("aa", (1, 1, 1), ""), ("b", FIRST, ""))]
NO_FILES = [(("a", (1, 1, 1), "x" * 97),), (("a", (1, 1, 1)),), (("a", (1, 1, 1), None, None),), (("a", None, ""),),
            (("b", (1, 1, 1), ""), ("a", (1, 1, 1), "")), (("a", (1, 1, 1), ""), ("a", (2, 1, 1), "")),
            (("a", (1, 1, 1), None),) * 2, [("a", (1, 1, 1), "")], (["a", (1, 1, 1), ""],), [], None, 0, "a",
            ("a", (1, 1, 1), ""), (("", (1, 1, 1), ""),)]


def to_server(word, rest, by=1, talk=(1, 2)):
    return ("server", by, talk, word, rest)


def to_client(word, rest, to=1, talk=(1, 2)):
    return (to, "server", talk, word, rest)


def samples():
    """Right letters of each word, to the server and to clients: pairs of the word and the rest."""
    asked = [(word, parts) for word, form in TO_SERVER.items() for parts in right(form)]
    asked += [("sums", (many,)) for many in MANYS] + [("roots", (integers,)) for integers in INTEGERS]
    told = [(word, parts) for word, form in TO_CLIENT.items() for parts in right(form)]
    told += [("list", (names,)) for names in NAMES] + [("files", (files,)) for files in FILES]
    told += [("kept", (name, asides)) for name in ("a", "abcdefgh") for asides in ASIDES]
    told += [("values", (many, size, (1, 2))) for many in MANYS for size in RIGHT["count"]]
    told += [("values", (2, 0, integers)) for integers in INTEGERS]
    return asked, told


class Letters(unittest.TestCase):
    def test_right_letters(self):
        asked, told = samples()
        for word, parts in asked:
            self.assertIs(is_letter(to_server(word, parts)), True, (word, parts))
        for word, parts in told:
            self.assertIs(is_letter(to_client(word, parts)), True, (word, parts))

    def test_words_the_other_way_round(self):
        asked, told = samples()
        for word, parts in asked:
            self.assertIs(is_letter(to_client(word, parts)), False, word)
        for word, parts in told:
            self.assertIs(is_letter(to_server(word, parts)), False, word)

    def test_to_and_by(self):
        asked, told = samples()
        for client in range(-2, 13):
            good = 1 <= client <= 9
            self.assertIs(is_letter(("server", client, (0, 0), "names", ())), good)
            self.assertIs(is_letter((client, "server", (0, 0), "given", ("a",))), good)
        wrong_pairs = [(1, 2), (1, 1), ("server", "server"), (None, "server"), ("server", None), (True, "server"),
                       ("server", True), ("Server", 1), (1, "Server"), ("", 1), (("server",), 1), (1, ["server"]),
                       (0, "server"), ("server", 0), (10, "server"), ("server", 10), ("server", "1"), ("1", "server")]
        for to, by in wrong_pairs:
            for word, parts in asked[:3] + told[:3] + [("names", ()), ("given", ("a",))]:
                self.assertIs(is_letter((to, by, (0, 0), word, parts)), False, (to, by, word))

    def test_talks(self):
        for talk in RIGHT["talk"]:
            self.assertIs(is_letter(to_server("names", (), 1, talk)), True)
            self.assertIs(is_letter(to_client("recall", ("a",), 1, talk)), True)
        for talk in WRONG["talk"] + [(1,), (1, 2, 3), (None, None), ("1", 1), (1, [1]), True]:
            self.assertIs(is_letter(to_server("names", (), 1, talk)), False, talk)
            self.assertIs(is_letter(to_client("recall", ("a",), 1, talk)), False, talk)

    def test_parts_that_are_wrong(self):
        for word, form in TO_SERVER.items():
            for parts in wrong(form):
                self.assertIs(is_letter(to_server(word, parts)), False, (word, parts))
        for word, form in TO_CLIENT.items():
            for parts in wrong(form):
                self.assertIs(is_letter(to_client(word, parts)), False, (word, parts))

    def test_do_and_done_of_0_and_1(self):
        for number, told in [(0, False), (1, True), (True, False), (-1, False)]:
            self.assertIs(is_letter(to_server("do", (number, "a", None, ("remove",)))), told)
            self.assertIs(is_letter(to_client("done", (number, "unfit", FIRST))), told)

    def test_sums_and_values(self):
        for many in NO_MANYS:
            self.assertIs(is_letter(to_server("sums", (many,))), False, many)
            self.assertIs(is_letter(to_client("values", (many, 0, ()))), False, many)
        for size in WRONG["count"]:
            self.assertIs(is_letter(to_client("values", (1, size, ()))), False, size)
        for integers in NO_INTEGERS:
            self.assertIs(is_letter(to_client("values", (1, 0, integers))), False, integers)
            self.assertIs(is_letter(to_server("roots", (integers,))), False, integers)
        for parts in [(), (1, 1), [1], (1, 0, (), ()), None]:
            self.assertIs(is_letter(to_server("sums", parts)), False, parts)
            self.assertIs(is_letter(to_client("values", parts)), False, parts)
        for parts in [(), ((), ()), [()], (1,), None]:
            self.assertIs(is_letter(to_server("roots", parts)), False, parts)

    def test_lists_asides_and_files(self):
        for names in NO_NAMES:
            self.assertIs(is_letter(to_client("list", (names,))), False, names)
        for asides in NO_ASIDES:
            self.assertIs(is_letter(to_client("kept", ("a", asides))), False, asides)
        for name in WRONG["name"]:
            self.assertIs(is_letter(to_client("kept", (name, ()))), False, name)
        for files in NO_FILES:
            self.assertIs(is_letter(to_client("files", (files,))), False, files)
        for word in ("list", "files"):
            for parts in [(), ((), ()), [()], None]:
                self.assertIs(is_letter(to_client(word, parts)), False, parts)
        for parts in [("a",), ((),), ("a", (), ()), ["a", ()], ((), "a"), None]:
            self.assertIs(is_letter(to_client("kept", parts)), False, parts)

    def test_asides_of_one_number_are_in_the_order_of_their_rest(self):
        rows = [(1, 1, None, ("put", "a")), (1, 1, None, ("put", "b")), (1, 1, None, ("remove",))]
        self.assertIs(is_letter(to_client("kept", ("a", tuple(rows)))), True)
        self.assertIs(is_letter(to_client("kept", ("a", tuple(rows[::-1])))), False)
        rows = [(1, 1, FIRST, ("remove",)), (1, 1, (1, 1, 1), ("put", "a"))]
        self.assertIs(is_letter(to_client("kept", ("a", tuple(rows)))), True)

    def test_other_words(self):
        for word in ["", "Look", "looks", "hold", "flush", "tick", None, 1, True, ("look",), ["look"]]:
            for parts in [(), ("a",), ("a", "read"), (1,), ((),)]:
                self.assertIs(is_letter(to_server(word, parts)), False, word)
                self.assertIs(is_letter(to_client(word, parts)), False, word)

    def test_other_values(self):
        letter = to_server("names", ())
        wrong_letters = [letter[:-1], letter + ((),), list(letter), (letter,), letter[1:], letter[::-1]]
        for thing in wrong_letters + all_values():
            self.assertIs(is_letter(thing), False, thing)
        for thing in package_objects():
            for k in range(5):
                self.assertIs(is_letter(letter[:k] + (thing,) + letter[k + 1:]), False)
                told = to_client("told", ("a", FIRST, None))
                self.assertIs(is_letter(told[:k] + (thing,) + told[k + 1:]), False)


if __name__ == "__main__":
    unittest.main()
