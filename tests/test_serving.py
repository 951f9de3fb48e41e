"""Point 11: what the server does with each letter; the answers to sums and roots of point 16."""

import unittest

from leasefiles.errors import NoLetter, NoTable
from leasefiles.letters import is_letter
from leasefiles.serving import serve
from leasefiles.tables import bare_table, behind, is_deed
from leasefiles.values import number_of
from tests.samples import all_values, package_objects

FIRST = (0, 0, 0)
P = 2 ** 89 - 1
FILES = (("a", (2, 1, 3), "one"), ("b", (1, 2, 1), None), ("c", (7, 9, 9), ""), ("d", (4, 1, 2), "x" * 96))
DONE = ((1, 3, "applied", (2, 1, 3)), (2, 4, "aside", FIRST), (9, 9, "dropped", FIRST))
ASIDES = (
    (2, 3, "a", None, ("put", "x")), (2, 4, "a", (1, 1, 1), ("remove",)), (3, 1, "b", FIRST, ("put", "y")),
    (3, 2, "a", None, ("splice", 1, 1, "N")), (3, 3, "a", None, ("splice", 3, 1, "N")),
    (3, 4, "a", None, ("take", "c")), (3, 5, "a", None, ("adopt", 2, 3)), (3, 6, "a", None, ("drop", 2, 3)),
    (3, 7, "b", None, ("remove",)),
)


def table_of(leases=(), clock=5, files=FILES, done=DONE, asides=ASIDES):
    return (clock, files, tuple(leases), done, asides)


def letter(word, rest, by=1, talk=(2, 7)):
    return ("server", by, talk, word, rest)


def do(number, name, base, edit, by=1):
    return letter("do", (number, name, base, edit), by, (2, 0))


def answer(word, rest, to=1, talk=(2, 7)):
    return (to, "server", talk, word, rest)


def done(number, word, stamp, to=1):
    return answer("done", (number, word, stamp), to, (2, 0))


def recall(to, name):
    return (to, "server", (0, 0), "recall", (name,))


class Serving(unittest.TestCase):
    def assert_served(self, table, asked, deeds, letters):
        told = serve(table, asked)
        self.assertEqual(told, (tuple(deeds), tuple(letters)))
        self.assertIsInstance(told, tuple)
        self.assertEqual([type(part) for part in told], [tuple, tuple])
        self.assertTrue(all(is_deed(deed) for deed in told[0]), told)
        self.assertTrue(all(is_letter(letter) for letter in told[1]), told)

    def assert_answered(self, table, asked, word, rest):
        self.assert_served(table, asked, (), (answer(word, rest, asked[1], asked[2]),))

    def assert_busy(self, table, asked, name, hindering):
        recalls = [recall(client, name) for client in hindering]
        self.assert_served(table, asked, (), [answer("busy", (name,), asked[1], asked[2])] + recalls)


class Looks(Serving):
    def test_with_and_without_a_file(self):
        for name, told in [("a", ((2, 1, 3), "one")), ("b", ((1, 2, 1), None)), ("c", ((7, 9, 9), "")),
                           ("z", (FIRST, None)), ("aa", (FIRST, None))]:
            self.assert_answered(table_of(), letter("look", (name,)), "told", (name,) + told)
        self.assert_answered(bare_table(), letter("look", ("a",), 9, (0, 0)), "told", ("a", FIRST, None))

    def test_leases_that_do_not_hinder(self):
        for leases in [[("a", 2, "read", (1, 1), 13)], [("a", 1, "write", (1, 1), 13)],
                       [("a", 1, "write", (9, 9), 13)], [("b", 2, "write", (1, 1), 13)],
                       [("a", 2, "write", (1, 1), 5)], [("a", 2, "write", (1, 1), 0)]]:
            self.assert_answered(table_of(leases), letter("look", ("a",)), "told", FILES[0])

    def test_a_write_lease_of_another_client(self):
        lease = ("a", 2, "write", (1, 1), 6)
        self.assert_busy(table_of([lease]), letter("look", ("a",)), "a", [2])
        self.assert_answered(table_of([lease], clock=6), letter("look", ("a",)), "told", FILES[0])
        self.assert_answered(table_of([lease]), letter("look", ("a",), 2), "told", FILES[0])

    def test_just_those_that_write_hinder(self):
        leases = [("a", 1, "read", (1, 1), 9), ("a", 2, "write", (1, 1), 9), ("a", 3, "read", (1, 1), 9),
                  ("a", 4, "write", (1, 1), 9), ("a", 5, "write", (1, 1), 5)]
        self.assert_busy(table_of(leases), letter("look", ("a",)), "a", [2, 4])


class Names(Serving):
    def test_names(self):
        self.assert_answered(table_of(), letter("names", ()), "list", (("a", "c", "d"),))
        self.assert_answered(bare_table(), letter("names", ()), "list", ((),))
        leases = [("a", 2, "write", (1, 1), 13)]
        self.assert_answered(table_of(leases), letter("names", (), 3, (0, 4)), "list", (("a", "c", "d"),))

    def test_asides(self):
        self.assert_answered(table_of(), letter("asides", ("b",)), "kept",
                             ("b", ((3, 1, FIRST, ("put", "y")), (3, 7, None, ("remove",)))))
        self.assert_answered(table_of(), letter("asides", ("z",)), "kept", ("z", ()))
        kept = tuple([aside[:2] + aside[3:] for aside in ASIDES if aside[2] == "a"])
        self.assertEqual(len(kept), 7)
        leases = [("a", 2, "write", (1, 1), 13)]
        self.assert_answered(table_of(leases), letter("asides", ("a",)), "kept", ("a", kept))


class Leases(Serving):
    def assert_granted(self, leases, kind, talk=(2, 7), clock=5, name="a"):
        asked = letter("lease", (name, kind), 1, talk)
        file = [file[1:] for file in FILES if file[0] == name] or [(FIRST, None)]
        granted = answer("granted", (name, kind) + file[0], 1, talk)
        self.assert_served(table_of(leases, clock), asked, [("grant", name, 1, kind, talk)], [granted])

    def test_granted(self):
        for kind in ("read", "write"):
            for name in ("a", "b", "c", "z"):
                self.assert_granted([], kind, (2, 7), 5, name)
            self.assert_granted([("b", 2, "write", (1, 1), 13)], kind)
            self.assert_granted([("a", 2, "write", (1, 1), 5), ("a", 3, "write", (1, 1), 0)], kind)

    def test_behind_a_lease_of_the_same_client(self):
        for until in (13, 6, 5, 0):
            for elder_kind in ("read", "write"):
                for kind in ("read", "write"):
                    for talk in [(2, 8), (3, 0), (9, 9)]:
                        leases = [("a", 1, elder_kind, talk, until)]
                        self.assert_served(table_of(leases), letter("lease", ("a", kind)), (), ())
                    for talk in [(2, 7), (2, 6), (1, 9), (0, 0)]:
                        self.assert_granted([("a", 1, elder_kind, talk, until)], kind)

    def test_a_greater_talk_counts_ahead_of_busy(self):
        leases = [("a", 1, "read", (2, 8), 13), ("a", 2, "write", (1, 1), 13)]
        self.assert_served(table_of(leases), letter("lease", ("a", "read")), (), ())
        leases = [("a", 1, "read", (2, 7), 13), ("a", 2, "write", (1, 1), 13)]
        self.assert_busy(table_of(leases), letter("lease", ("a", "read")), "a", [2])

    def test_read_beside_others(self):
        self.assert_granted([("a", 2, "read", (1, 1), 13), ("a", 3, "read", (1, 1), 13)], "read")
        leases = [("a", 2, "read", (1, 1), 9), ("a", 3, "write", (1, 1), 9), ("a", 4, "write", (1, 1), 6)]
        self.assert_busy(table_of(leases), letter("lease", ("a", "read")), "a", [3, 4])
        self.assert_busy(table_of(leases, clock=6), letter("lease", ("a", "read")), "a", [3])
        self.assert_granted(leases, "read", (2, 7), 9)

    def test_write_beside_others(self):
        leases = [("a", 1, "read", (1, 1), 9), ("a", 2, "read", (1, 1), 9), ("a", 3, "write", (1, 1), 9),
                  ("a", 4, "read", (1, 1), 6)]
        self.assert_busy(table_of(leases), letter("lease", ("a", "write")), "a", [2, 3, 4])
        self.assert_busy(table_of(leases, clock=6), letter("lease", ("a", "write")), "a", [2, 3])
        self.assert_granted(leases, "write", (2, 7), 9)
        self.assert_busy(table_of([("a", 9, "read", (1, 1), 6)]), letter("lease", ("a", "write")), "a", [9])

    def test_give(self):
        given = (answer("given", ("a",)),)
        for until in (13, 5):
            for talk in [(2, 6), (1, 9), (0, 0)]:
                leases = [("a", 1, "write", talk, until)]
                self.assert_served(table_of(leases), letter("give", ("a",)), [("give", "a", 1, (2, 7))], given)
            for talk in [(2, 7), (2, 8), (3, 0)]:
                self.assert_served(table_of([("a", 1, "write", talk, until)]), letter("give", ("a",)), (), given)
        for leases in [[], [("a", 2, "write", (1, 1), 13)], [("b", 1, "write", (1, 1), 13)]]:
            self.assert_served(table_of(leases), letter("give", ("a",)), (), given)


class Writes(Serving):
    def test_numbers(self):
        put = ("put", "new")
        # Client 1 has done 3, client 2 has done 4, client 3 has done none.
        for by, number, told in [(1, 3, DONE[0][1:]), (2, 4, DONE[1][1:]), (9, 9, DONE[2][1:])]:
            for base in (None, (2, 1, 3), (9, 9, 9)):
                self.assert_served(table_of(), do(number, "a", base, put, by), (), [done(*told, by)])
        for by, number in [(1, 2), (1, 1), (1, 5), (1, 100), (2, 3), (2, 6), (3, 2), (3, 3), (9, 8), (9, 11)]:
            for base in (None, (2, 1, 3), (9, 9, 9)):
                self.assert_served(table_of(), do(number, "a", base, put, by), (), ())
        for by, number in [(1, 4), (2, 5), (3, 1), (9, 10)]:
            stamp = (3, by, number)
            self.assert_served(table_of(), do(number, "a", None, put, by),
                               [("apply", by, number, "a", stamp, "new")], [done(number, "applied", stamp, by)])

    def test_number_done_is_told_whoever_has_leases(self):
        leases = [("a", 2, "write", (1, 1), 13)]
        self.assert_served(table_of(leases), do(3, "a", None, ("put", "new")), (), [done(*DONE[0][1:])])
        self.assert_served(table_of(leases), do(2, "a", None, ("put", "new")), (), ())

    def test_bases(self):
        put = ("put", "new")
        for name, base, right in [("a", (2, 1, 3), True), ("a", None, True), ("a", (2, 1, 2), False), ("a", FIRST, False),
                                  ("b", (1, 2, 1), True), ("b", FIRST, False), ("z", FIRST, True),
                                  ("z", (1, 1, 1), False), ("z", None, True)]:
            for leases in [[], [(name, 1, "write", (1, 1), 13)]]:
                if right:
                    count = dict([(file[0], file[1][0]) for file in FILES]).get(name, 0)
                    stamp = (count + 1, 1, 4)
                    self.assert_served(table_of(leases), do(4, name, base, put),
                                       [("apply", 1, 4, name, stamp, "new")], [done(4, "applied", stamp)])
                else:
                    self.assert_served(table_of(leases), do(4, name, base, put),
                                       [("aside", 1, 4, name, base, put)], [done(4, "aside", FIRST)])

    def test_a_wrong_base_is_kept_aside_whatever_the_edit_and_the_leases(self):
        leases = [("a", 2, "write", (1, 1), 13), ("c", 2, "write", (1, 1), 13)]
        for edit in [("put", ""), ("splice", 9, 9, ""), ("remove",), ("take", "c"), ("take", "z"), ("adopt", 2, 3),
                     ("adopt", 9, 1), ("drop", 2, 3)]:
            self.assert_served(table_of(leases), do(4, "a", (9, 9, 9), edit), [("aside", 1, 4, "a", (9, 9, 9), edit)],
                               [done(4, "aside", FIRST)])

    def test_others_at_the_name(self):
        leases = [("a", 1, "write", (1, 1), 9), ("a", 2, "read", (1, 1), 9), ("a", 3, "write", (1, 1), 6),
                  ("a", 4, "write", (1, 1), 5)]
        for base in (None, (2, 1, 3)):
            for edit in [("put", ""), ("splice", 9, 9, ""), ("remove",), ("take", "c"), ("take", "a"), ("adopt", 2, 3),
                         ("adopt", 9, 1), ("drop", 2, 3)]:
                self.assert_busy(table_of(leases), do(4, "a", base, edit), "a", [2, 3])
                self.assert_busy(table_of(leases, clock=6), do(4, "a", base, edit), "a", [2])
        self.assertEqual(serve(table_of(leases, clock=9), do(4, "a", None, ("put", "")))[0][0][0], "apply")
        self.assertEqual(serve(table_of(leases[:1]), do(4, "a", None, ("put", "")))[0][0][0], "apply")

    def test_others_at_the_other_name_of_a_take(self):
        at_c = [("c", 1, "read", (1, 1), 9), ("c", 4, "read", (1, 1), 9), ("c", 5, "write", (1, 1), 9),
                ("c", 6, "write", (1, 1), 5)]
        at_a = [("a", 7, "read", (1, 1), 9), ("a", 8, "read", (1, 1), 5)]
        take = do(4, "a", None, ("take", "c"))
        self.assert_busy(table_of(at_c), take, "c", [4, 5])
        self.assert_busy(table_of(at_a + at_c), take, "a", [7])
        self.assert_busy(table_of(at_a), take, "a", [7])
        self.assert_busy(table_of(at_a[1:] + at_c), take, "c", [4, 5])
        self.assertEqual(serve(table_of(at_c[:1] + at_c[3:]), take)[0][0][0], "take")
        for edit in [("put", ""), ("drop", 2, 3)]:
            self.assertEqual(len(serve(table_of(at_c), do(4, "a", None, edit))[0]), 1)

    def assert_applied(self, name, edit, text, by=1, number=4):
        stamp = (dict([(file[0], file[1][0]) for file in FILES]).get(name, 0) + 1, by, number)
        self.assert_served(table_of(), do(number, name, None, edit, by), [("apply", by, number, name, stamp, text)],
                           [done(number, "applied", stamp, by)])

    def assert_unfit(self, name, edit, by=1, number=4, asides=ASIDES):
        self.assert_served(table_of(asides=asides), do(number, name, None, edit, by), [("unfit", by, number)],
                           [done(number, "unfit", FIRST, by)])

    def test_put_splice_and_remove(self):
        self.assert_applied("a", ("put", "new"), "new")
        self.assert_applied("b", ("put", ""), "")
        self.assert_applied("z", ("put", "x" * 96), "x" * 96, 3, 1)
        self.assert_applied("a", ("remove",), None)
        self.assert_applied("c", ("remove",), None)
        self.assert_applied("a", ("splice", 1, 2, "ff"), "off")
        self.assert_applied("a", ("splice", 3, 0, "!"), "one!")
        self.assert_applied("a", ("splice", 0, 3, "x" * 96), "x" * 96)
        self.assert_applied("d", ("splice", 96, 0, ""), "x" * 96)
        self.assert_applied("d", ("splice", 0, 1, "y"), "y" + "x" * 95)

    def test_what_can_not_be_done(self):
        for name, edit in [("a", ("splice", 4, 0, "")), ("a", ("splice", 3, 1, "")), ("a", ("splice", 0, 4, "")),
                           ("b", ("splice", 0, 0, "")), ("b", ("remove",)), ("z", ("remove",)),
                           ("z", ("splice", 0, 0, "a")), ("d", ("splice", 0, 0, "y")), ("d", ("splice", 5, 1, "yy")),
                           ("a", ("splice", 1, 0, "x" * 94))]:
            self.assert_unfit(name, edit)
            self.assert_unfit(name, edit, 3, 1)

    def test_take(self):
        for name, other, text, stamp, beside in [
            ("a", "c", "", (3, 1, 4), (8, 1, 4)), ("c", "a", "one", (8, 1, 4), (3, 1, 4)),
            ("b", "a", "one", (2, 1, 4), (3, 1, 4)), ("z", "d", "x" * 96, (1, 1, 4), (5, 1, 4)),
        ]:
            for base in [None, dict([(file[0], file[1]) for file in FILES]).get(name, FIRST)]:
                self.assert_served(table_of(), do(4, name, base, ("take", other)),
                                   [("take", 1, 4, name, stamp, text, other, beside)], [done(4, "applied", stamp)])

    def test_take_that_can_not_be_done(self):
        for name, other in [("a", "a"), ("a", "b"), ("a", "z"), ("z", "z"), ("b", "b"), ("z", "b")]:
            self.assert_unfit(name, ("take", other))

    def test_adopt(self):
        for client, number, text in [(2, 3, "x"), (2, 4, None), (3, 2, "oNe")]:
            self.assert_served(table_of(), do(4, "a", None, ("adopt", client, number)),
                               [("adopt", 1, 4, "a", (3, 1, 4), text, client, number)], [done(4, "applied", (3, 1, 4))])
        self.assert_served(table_of(), do(1, "b", (1, 2, 1), ("adopt", 3, 1), 3),
                           [("adopt", 3, 1, "b", (2, 3, 1), "y", 3, 1)], [done(1, "applied", (2, 3, 1), 3)])

    def test_adopt_that_can_not_be_done(self):
        # Asides that are not there, or for another name; edits that can't be done; take, adopt and drop.
        for name, client, number in [("a", 2, 5), ("a", 4, 1), ("a", 1, 3), ("a", 3, 1), ("b", 2, 3), ("c", 2, 3),
                                     ("a", 3, 3), ("b", 3, 7), ("a", 3, 4), ("a", 3, 5), ("a", 3, 6), ("z", 3, 1)]:
            self.assert_unfit(name, ("adopt", client, number))
        self.assert_unfit("a", ("adopt", 2, 3), 1, 4, ())

    def test_drop(self):
        for name, client, number in [("a", 2, 3), ("a", 2, 4), ("b", 3, 1), ("a", 3, 3), ("a", 3, 4), ("a", 3, 5),
                                     ("a", 3, 6), ("b", 3, 7)]:
            self.assert_served(table_of(), do(4, name, None, ("drop", client, number)),
                               [("drop", 1, 4, client, number)], [done(4, "dropped", FIRST)])
        for name, client, number in [("b", 2, 3), ("a", 3, 1), ("a", 2, 5), ("a", 9, 1), ("z", 3, 1)]:
            self.assert_unfit(name, ("drop", client, number))

    def test_what_is_done_is_told_again(self):
        for asked in [do(4, "a", None, ("put", "new")), do(4, "a", (9, 9, 9), ("put", "new")),
                      do(4, "a", None, ("take", "c")), do(4, "a", None, ("adopt", 2, 3)), do(4, "a", None, ("drop", 2, 3)),
                      do(4, "a", None, ("drop", 9, 9))]:
            table = table_of()
            deeds, letters = serve(table, asked)
            for deed in deeds:
                table = behind(table, deed)
            self.assert_served(table, asked, (), letters)


class Lots(Serving):
    def sums(self, files, many):
        found = []
        for k in range(1, many + 1):
            product = 1
            for name, stamp, _ in files:
                product *= P - k - number_of(name, stamp)
            found.append(product % P)
        return tuple(found)

    def test_sums(self):
        lots = [(), FILES[:1], FILES, tuple([(name, (k + 1, 1, k + 1), None) for k, name in enumerate("abcdefghijk")])]
        for files in lots:
            for many in (1, 2, 3, 63, 64):
                self.assert_answered(table_of(files=files), letter("sums", (many,)), "values",
                                     (many, len(files), self.sums(files, many)))
        self.assert_answered(bare_table(), letter("sums", (3,), 4), "values", (3, 0, (1, 1, 1)))

    def test_sums_of_many_files(self):
        names = [one + other for one in "abcdefghijklmnopqrst" for other in "abcdefghijklmno"]
        files = tuple([(name, (1, 1, k + 1), "x") for k, name in enumerate(names)])
        self.assertEqual(len(files), 300)
        self.assert_answered(table_of(files=files), letter("sums", (2,)), "values", (2, 300, self.sums(files, 2)))
        self.assert_answered(table_of(files=files), letter("roots", ((),)), "files", (files,))

    def test_roots(self):
        numbers = [number_of(name, stamp) for name, stamp, _ in FILES]
        factor = (-numbers[1] % P, 1)
        two = (numbers[0] * numbers[2] % P, -(numbers[0] + numbers[2]) % P, 1)
        for polynomial, files in [
            ((), FILES), ((1,), ()), ((0,), FILES), ((0, 0, 0), FILES), ((P,), FILES), ((P, 2 * P), FILES), ((5,), ()),
            (factor, FILES[1:2]), (two, (FILES[0], FILES[2])), ((two[0] + P, two[1] + 3 * P, 1 + P), (FILES[0], FILES[2])),
            ((factor[0] * 7, 7), FILES[1:2]), ((0, 1), ()), ((10 ** 29, 1), ()), ((P + 1,), ()),
            ((0,) + factor + (0,) * 62, FILES[1:2]), ((0,) * 65, FILES),
        ]:
            self.assert_answered(table_of(), letter("roots", (polynomial,)), "files", (files,))
        self.assert_answered(bare_table(), letter("roots", ((),)), "files", ((),))

    def test_a_file_with_the_first_stamp(self):
        files = (("a", FIRST, "x"),)
        self.assert_answered(table_of(files=files), letter("sums", (1,)), "values", (1, 1, self.sums(files, 1)))
        self.assert_answered(table_of(files=files), letter("roots", ((),)), "files", (files,))


class Wrong(Serving):
    def test_no_tables_and_no_letters(self):
        right = letter("names", ())
        no_letters = [answer("given", ("a",)), recall(1, "a"), letter("nothing", ()), letter("names", (1,)),
                      ("server", "server", (1, 1), "names", ()), (1, 2, (1, 1), "names", ()), list(right), None, ()]
        for table in [None, (), table_of(clock=-1), list(table_of()), table_of(files=FILES[::-1])] + package_objects():
            for asked in [right] + no_letters:
                with self.assertRaises(NoTable) as caught:
                    serve(table, asked)
                self.assertIs(type(caught.exception), NoTable)
        for asked in no_letters + all_values():
            with self.assertRaises(NoLetter) as caught:
                serve(table_of(), asked)
            self.assertIs(type(caught.exception), NoLetter)
        with self.assertRaises(NoLetter):
            serve(table_of(), do(0, "a", None, ("put", "")))


if __name__ == "__main__":
    unittest.main()
