"""Point 9: the server's table, its deeds, and what the table is behind them."""

import unittest

from leasefiles.errors import NoDeed, NoName, NoTable
from leasefiles.tables import bare_table, behind, file_of, is_deed, is_table
from tests.parts import RIGHT, right, wrong
from tests.samples import all_values, package_objects

FIRST = (0, 0, 0)
FILE = ("name", "stamp", "text")
LEASE = ("name", "client", "kind", "talk", "count")
DONE = ("client", "number", "word", "stamp")
ASIDE = ("client", "number", "name", "base", "edit")
PARTS = [(1, FILE, 1), (2, LEASE, 2), (3, DONE, 1), (4, ASIDE, 2)]
DEEDS = {
    "grant": ("name", "client", "kind", "talk"),
    "give": ("name", "client", "talk"),
    "apply": ("client", "number", "name", "stamp", "text"),
    "take": ("client", "number", "name", "stamp", "text", "name", "stamp"),
    "adopt": ("client", "number", "name", "stamp", "text", "client", "number"),
    "drop": ("client", "number", "client", "number"),
    "aside": ("client", "number", "name", "base", "edit"),
    "unfit": ("client", "number"),
    "tick": (),
    "rise": (),
}
FULL = (
    5,
    (("a", (2, 1, 3), "one"), ("b", (1, 2, 1), None), ("notes", (7, 9, 9), "")),
    (("a", 1, "read", (1, 4), 9), ("a", 3, "read", (2, 0), 6), ("b", 1, "write", (0, 0), 5)),
    ((1, 3, "applied", (2, 1, 3)), (2, 4, "aside", FIRST), (9, 9, "dropped", FIRST)),
    ((2, 3, "a", None, ("put", "x")), (2, 4, "a", (1, 1, 1), ("remove",)), (3, 1, "b", FIRST, ("take", "a"))),
)
NO_TABLES = [None, (), (0, (), (), ()), (0, (), (), (), (), ()), [0, (), (), (), ()], {}, "", 0, True,
             (-1, (), (), (), ()), (True, (), (), (), ()), (None, (), (), (), ()), ((), (), (), (), ()),
             (0, None, (), (), ()), (0, (), 0, (), ()), (0, (), (), [], ()), (0, (), (), (), {})]
NO_NAMES = ["", "A", "abcdefghi", None, 0, True, ("a",), ["a"], {}, "a\n"]


def with_part(k, part):
    return bare_table()[:k] + (part,) + bare_table()[k + 1:]


def changed(table, **parts):
    """The table with some parts exchanged."""
    names = ("clock", "files", "leases", "done", "asides")
    return tuple([parts.get(name, part) for name, part in zip(names, table)])


class Tables(unittest.TestCase):
    def test_bare(self):
        self.assertEqual(bare_table(), (0, (), (), (), ()))
        self.assertIs(is_table(bare_table()), True)
        self.assertIs(is_table(FULL), True)

    def test_clocks(self):
        for clock in RIGHT["count"]:
            self.assertIs(is_table((clock, (), (), (), ())), True)

    def test_no_tables(self):
        for thing in NO_TABLES + all_values():
            self.assertIs(is_table(thing), False, thing)

    def test_one_row(self):
        for k, form, _ in PARTS:
            for row in right(form):
                self.assertIs(is_table(with_part(k, (row,))), True, row)
            for row in wrong(form):
                self.assertIs(is_table(with_part(k, (row,))), False, row)
                self.assertIs(is_table(with_part(k, (right(form)[0], row))), False, row)

    def test_lists_for_tuples(self):
        for k in range(1, 5):
            rows = FULL[k]
            self.assertIs(is_table(with_part(k, rows)), True)
            self.assertIs(is_table(with_part(k, list(rows))), False)
            self.assertIs(is_table(with_part(k, (list(rows[0]),) + rows[1:])), False)
            self.assertIs(is_table(with_part(k, rows[0])), False)

    def test_a_part_of_another_kind(self):
        for k in range(1, 5):
            for other in range(1, 5):
                self.assertIs(is_table(with_part(k, FULL[other])), k == other)

    def test_rows_out_of_order_and_doubled(self):
        for k in range(1, 5):
            rows = FULL[k]
            for wrong_rows in [rows[::-1], (rows[1], rows[0], rows[2]), (rows[0], rows[2], rows[1]), rows + rows[2:],
                               (rows[0], rows[0]), rows[:1] + rows]:
                self.assertIs(is_table(with_part(k, wrong_rows)), False, wrong_rows)

    def test_one_row_for_a_key(self):
        for k, rows in [
            (1, (("a", FIRST, None), ("a", (1, 1, 1), None))),
            (1, (("a", FIRST, None), ("a", FIRST, "x"))),
            (1, (("a", FIRST, "x"), ("a", FIRST, None))),
            (2, (("a", 1, "read", (0, 0), 0), ("a", 1, "write", (0, 0), 0))),
            (2, (("a", 1, "read", (0, 0), 0), ("a", 1, "read", (0, 1), 0))),
            (3, ((1, 1, "applied", FIRST), (1, 2, "applied", FIRST))),
            (3, ((1, 1, "applied", FIRST), (1, 1, "unfit", FIRST))),
            (4, ((1, 1, "a", None, ("remove",)), (1, 1, "b", None, ("remove",)))),
            (4, ((1, 1, "a", None, ("remove",)), (1, 1, "a", FIRST, ("remove",)))),
            (4, ((1, 1, "a", FIRST, ("remove",)), (1, 1, "a", None, ("remove",)))),
        ]:
            self.assertIs(is_table(with_part(k, rows)), False, rows)

    def test_rows_that_share_a_part_of_their_key(self):
        for k, rows in [
            (2, (("a", 1, "read", (9, 9), 9), ("a", 2, "read", (0, 0), 0))),
            (2, (("a", 2, "write", (9, 9), 9), ("b", 2, "read", (0, 0), 0))),
            (4, ((1, 1, "b", None, ("remove",)), (1, 2, "a", FIRST, ("put", "")))),
            (4, ((1, 2, "b", FIRST, ("remove",)), (2, 1, "a", None, ("put", "")))),
            (1, (("a", (9, 9, 9), "x"), ("ab", FIRST, None), ("b", FIRST, None))),
            (3, ((1, 9, "unfit", (9, 9, 9)), (2, 1, "applied", FIRST))),
        ]:
            self.assertIs(is_table(with_part(k, rows)), True, rows)
            self.assertIs(is_table(with_part(k, rows[::-1])), False, rows)

    def test_texts_of_96_and_97_signs(self):
        for text, told in [("x" * 96, True), ("x" * 97, False), (None, True), ("", True)]:
            self.assertIs(is_table(with_part(1, (("a", (1, 1, 1), text),))), told)

    def test_the_first_stamp_and_those_like_it(self):
        for stamp in [FIRST, (0, 0, 1), (0, 1, 0), (1, 0, 0), (False, 0, 0), (0, 0, False), [0, 0, 0], (0, 0)]:
            told = stamp == FIRST and not any(part is False for part in stamp)
            for k, row in [(1, ("a", stamp, "x")), (3, (1, 1, "applied", stamp)),
                           (4, (1, 1, "a", stamp, ("remove",)))]:
                self.assertIs(is_table(with_part(k, (row,))), told, row)


class Deeds(unittest.TestCase):
    def test_each_word(self):
        for word, form in DEEDS.items():
            for parts in right(form):
                self.assertIs(is_deed((word,) + parts), True, (word, parts))

    def test_each_part_wrong(self):
        for word, form in DEEDS.items():
            for parts in wrong(form):
                if isinstance(parts, tuple):
                    self.assertIs(is_deed((word,) + parts), False, (word, parts))
                else:
                    self.assertIs(is_deed((word, parts)), False, (word, parts))
            self.assertIs(is_deed([word] + list(right(form)[0])), False, word)

    def test_stand(self):
        for table in (bare_table(), FULL):
            self.assertIs(is_deed(("stand", table)), True)
            self.assertIs(is_deed(("stand", table, table)), False)
            self.assertIs(is_deed(("stand",) + table), False)
        for table in NO_TABLES:
            self.assertIs(is_deed(("stand", table)), False, table)
        self.assertIs(is_deed(("stand",)), False)

    def test_other_words(self):
        for word in ["", "Grant", "grants", "boot", "write", "settled", "item", "applied", None, 1, True, ("tick",)]:
            for parts in [()] + [right(form)[0] for form in DEEDS.values()] + [(FULL,)]:
                self.assertIs(is_deed((word,) + parts), False, (word, parts))

    def test_other_values(self):
        for thing in all_values() + ["tick", ["tick"], {"tick": ()}, (["tick"],), ((),)]:
            self.assertIs(is_deed(thing), False, thing)
        for thing in package_objects():
            for deed in [(thing,), ("tick", thing), ("unfit", thing, 1), ("stand", thing), ("give", "a", 1, thing)]:
                self.assertIs(is_deed(deed), False)


class Leases(unittest.TestCase):
    def test_grant_of_a_new_one(self):
        for name, client, at in [("a", 2, 1), ("a", 9, 2), ("aa", 1, 2), ("b", 2, 3), ("c", 1, 3)]:
            lease = (name, client, "write", (4, 5), 13)
            leases = FULL[2][:at] + (lease,) + FULL[2][at:]
            self.assertEqual(behind(FULL, ("grant", name, client, "write", (4, 5))), changed(FULL, leases=leases))
        table = behind(bare_table(), ("grant", "a", 1, "read", (0, 0)))
        self.assertEqual(table, (0, (), (("a", 1, "read", (0, 0), 8),), (), ()))

    def test_grant_of_one_that_is_there(self):
        # The lease of client 1 at a has the talk (1, 4).
        for talk, kept in [((1, 5), (1, 5)), ((2, 0), (2, 0)), ((1, 4), (1, 4)), ((1, 3), (1, 4)), ((0, 9), (1, 4))]:
            for kind in ("read", "write"):
                leases = (("a", 1, kind, kept, 13),) + FULL[2][1:]
                self.assertEqual(behind(FULL, ("grant", "a", 1, kind, talk)), changed(FULL, leases=leases))

    def test_grant_of_one_no_more_in_force(self):
        leases = FULL[2][:2] + (("b", 1, "read", (3, 3), 13),)
        self.assertEqual(behind(FULL, ("grant", "b", 1, "read", (3, 3))), changed(FULL, leases=leases))
        late = changed(FULL, clock=100)
        leases = (("a", 1, "write", (1, 4), 108),) + FULL[2][1:]
        self.assertEqual(behind(late, ("grant", "a", 1, "write", (1, 3))), changed(late, leases=leases))

    def test_give(self):
        for talk in [(1, 5), (2, 0), (9, 9)]:
            self.assertEqual(behind(FULL, ("give", "a", 1, talk)), changed(FULL, leases=FULL[2][1:]))
        for talk in [(1, 4), (1, 3), (0, 9), (0, 0)]:
            self.assertEqual(behind(FULL, ("give", "a", 1, talk)), FULL)
        self.assertEqual(behind(FULL, ("give", "b", 1, (0, 1))), changed(FULL, leases=FULL[2][:2]))

    def test_give_of_none(self):
        for name, client in [("a", 2), ("b", 3), ("c", 1)]:
            self.assertEqual(behind(FULL, ("give", name, client, (9, 9))), FULL)


class Files(unittest.TestCase):
    def test_apply(self):
        for text in ("new", "", None, "x" * 96):
            for name, at in [("a", 0), ("b", 1), ("notes", 2)]:
                files = FULL[1][:at] + ((name, (8, 1, 4), text),) + FULL[1][at + 1:]
                done = ((1, 4, "applied", (8, 1, 4)),) + FULL[3][1:]
                self.assertEqual(behind(FULL, ("apply", 1, 4, name, (8, 1, 4), text)),
                                 changed(FULL, files=files, done=done))

    def test_apply_to_a_new_name(self):
        for name, at in [("aa", 1), ("c", 2), ("z", 3)]:
            files = FULL[1][:at] + ((name, (1, 3, 1), "x"),) + FULL[1][at:]
            done = FULL[3][:2] + ((3, 1, "applied", (1, 3, 1)),) + FULL[3][2:]
            self.assertEqual(behind(FULL, ("apply", 3, 1, name, (1, 3, 1), "x")),
                             changed(FULL, files=files, done=done))

    def test_take(self):
        done = ((1, 4, "applied", (3, 1, 4)),) + FULL[3][1:]
        files = (("a", (3, 1, 4), "x"), ("b", (2, 1, 4), None), FULL[1][2])
        self.assertEqual(behind(FULL, ("take", 1, 4, "a", (3, 1, 4), "x", "b", (2, 1, 4))),
                         changed(FULL, files=files, done=done))
        files = (("a", (2, 1, 4), None), ("b", (3, 1, 4), None), FULL[1][2])
        self.assertEqual(behind(FULL, ("take", 1, 4, "b", (3, 1, 4), None, "a", (2, 1, 4))),
                         changed(FULL, files=files, done=done))

    def test_take_of_new_names_and_of_one_name(self):
        table = behind(bare_table(), ("take", 1, 1, "b", (1, 1, 1), "x", "a", (2, 1, 1)))
        self.assertEqual(table[1], (("a", (2, 1, 1), None), ("b", (1, 1, 1), "x")))
        table = behind(FULL, ("take", 1, 4, "aa", (1, 1, 4), "x", "c", (1, 1, 5)))
        self.assertEqual([file[0] for file in table[1]], ["a", "aa", "b", "c", "notes"])
        table = behind(bare_table(), ("take", 1, 1, "a", (1, 1, 1), "x", "a", (2, 1, 1)))
        self.assertEqual(table[1], (("a", (2, 1, 1), None),))

    def test_adopt(self):
        files = (("a", (3, 9, 10), "x"),) + FULL[1][1:]
        done = FULL[3][:2] + ((9, 10, "applied", (3, 9, 10)),)
        for by, its, asides in [(2, 3, FULL[4][1:]), (2, 4, FULL[4][:1] + FULL[4][2:]), (3, 1, FULL[4][:2]),
                                (2, 5, FULL[4]), (3, 3, FULL[4]), (1, 1, FULL[4])]:
            self.assertEqual(behind(FULL, ("adopt", 9, 10, "a", (3, 9, 10), "x", by, its)),
                             changed(FULL, files=files, done=done, asides=asides))

    def test_drop(self):
        done = FULL[3][:2] + ((9, 10, "dropped", FIRST),)
        for by, its, asides in [(2, 3, FULL[4][1:]), (2, 4, FULL[4][:1] + FULL[4][2:]), (3, 1, FULL[4][:2]),
                                (2, 5, FULL[4]), (3, 3, FULL[4]), (1, 1, FULL[4])]:
            self.assertEqual(behind(FULL, ("drop", 9, 10, by, its)), changed(FULL, done=done, asides=asides))

    def test_aside(self):
        for client, number, at in [(1, 4, 0), (2, 1, 0), (2, 5, 2), (3, 2, 3)]:
            aside = (client, number, "c", None, ("put", "y"))
            table = behind(FULL, ("aside",) + aside)
            self.assertEqual(table[4], FULL[4][:at] + (aside,) + FULL[4][at:])
            self.assertIn((client, number, "aside", FIRST), table[3])
            self.assertEqual(table[:3], FULL[:3])

    def test_aside_of_one_that_is_there(self):
        aside = (2, 4, "z", FIRST, ("drop", 1, 1))
        table = behind(FULL, ("aside",) + aside)
        self.assertEqual(table, changed(FULL, asides=(FULL[4][0], aside, FULL[4][2])))

    def test_unfit(self):
        self.assertEqual(behind(FULL, ("unfit", 2, 5)),
                         changed(FULL, done=(FULL[3][0], (2, 5, "unfit", FIRST), FULL[3][2])))
        self.assertEqual(behind(bare_table(), ("unfit", 2, 5)), with_part(3, ((2, 5, "unfit", FIRST),)))


class Clocks(unittest.TestCase):
    def test_tick(self):
        # The clock is 5; the leases are until 9, 6 and 5.
        once = behind(FULL, ("tick",))
        self.assertEqual(once, changed(FULL, clock=6, leases=FULL[2][:1]))
        table = once
        for clock in (7, 8):
            table = behind(table, ("tick",))
            self.assertEqual(table, changed(FULL, clock=clock, leases=FULL[2][:1]))
        self.assertEqual(behind(table, ("tick",)), changed(FULL, clock=9, leases=()))
        self.assertEqual(behind(bare_table(), ("tick",)), (1, (), (), (), ()))

    def test_a_lease_lasts_eight_ticks(self):
        table = behind(bare_table(), ("grant", "a", 1, "read", (0, 1)))
        for _ in range(7):
            table = behind(table, ("tick",))
            self.assertEqual(len(table[2]), 1)
        self.assertEqual(behind(table, ("tick",)), (8, (), (), (), ()))

    def test_rise(self):
        leases = tuple([lease[:4] + (13,) for lease in FULL[2]])
        self.assertEqual(behind(FULL, ("rise",)), changed(FULL, leases=leases))
        self.assertEqual(behind(bare_table(), ("rise",)), bare_table())

    def test_stand(self):
        self.assertEqual(behind(FULL, ("stand", bare_table())), bare_table())
        self.assertEqual(behind(bare_table(), ("stand", FULL)), FULL)


class Behind(unittest.TestCase):
    def test_it_is_a_table(self):
        for word, form in DEEDS.items():
            for parts in right(form):
                for table in (bare_table(), FULL):
                    self.assertIs(is_table(behind(table, (word,) + parts)), True, (word, parts))

    def test_no_tables_and_no_deeds(self):
        for table in NO_TABLES + package_objects():
            for deed in [("tick",), ("ticks",), None, ("stand", table)]:
                with self.assertRaises(NoTable, msg=table) as caught:
                    behind(table, deed)
                self.assertIs(type(caught.exception), NoTable)
        for deed in [None, (), ("ticks",), ["tick"], ("tick", 1), ("unfit", 0, 1), ("stand", None)] + all_values():
            with self.assertRaises(NoDeed) as caught:
                behind(FULL, deed)
            self.assertIs(type(caught.exception), NoDeed)

    def test_file_of(self):
        for name, told in [("a", ((2, 1, 3), "one")), ("b", ((1, 2, 1), None)), ("notes", ((7, 9, 9), "")),
                           ("aa", (FIRST, None)), ("c", (FIRST, None)), ("z", (FIRST, None))]:
            self.assertEqual(file_of(FULL, name), told)
            self.assertEqual(file_of(bare_table(), name), (FIRST, None))

    def test_file_of_wrong_arguments(self):
        for table in NO_TABLES + package_objects():
            for name in ["a"] + NO_NAMES:
                with self.assertRaises(NoTable):
                    file_of(table, name)
        for name in NO_NAMES + package_objects():
            with self.assertRaises(NoName):
                file_of(FULL, name)


if __name__ == "__main__":
    unittest.main()
