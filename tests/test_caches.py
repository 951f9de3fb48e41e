"""Point 16: a client's cache, and the operation refresh that makes it good."""

import unittest

from leasefiles.clients import Client
from leasefiles.serving import serve
from leasefiles.values import number_of

FIRST = (0, 0, 0)
P = 2 ** 89 - 1


def asked(word, rest, k):
    return ("server", 1, (2, k), word, rest)


def told(word, rest, k):
    return (1, "server", (2, k), word, rest)


def table_of(files):
    return (0, tuple(files), (), (), ())


def letters_of_two():
    """Names of two letters, ascending."""
    letters = "abcdefghijklmnopqrst"
    return [one + other for one in letters for other in letters]


def files_of(many, count=1):
    return [(name, (count, 1, k + 1), "text") for k, name in enumerate(letters_of_two()[:many])]


def with_cache(files):
    """A client whose cache has these files, by one refresh; its next letter is its third one."""
    client = Client(1, (2, 0, ()))
    client.begin(("refresh",))
    client.take(told("values", (2, len(files), (0, 0)), 1))
    while client.again()[1][0][3] == "sums":
        many, k = client.again()[1][0][4][0], client.again()[1][0][2][1]
        client.take(told("values", (many, len(files), ()), k))
    client.take(told("files", (tuple(files),), client.again()[1][0][2][1]))
    assert client.cache() == tuple(files), client.cache()
    return client


def refreshed(client, table):
    """The words and rests of the letters to the server of one refresh to its end."""
    turn = client.begin(("refresh",))
    words = []
    while client.running() is not None:
        assert turn[0] == () and len(turn[1]) == 1, turn
        words.append(turn[1][0][3:])
        turn = client.take(serve(table, turn[1][0])[1][0])
    assert turn == ((), ())
    return words


class Cached(unittest.TestCase):
    def test_told_and_granted(self):
        client = Client(1, (2, 0, ()))
        for k, (name, stamp, text, cache) in enumerate([
            ("b", (1, 1, 1), "x", [("b", (1, 1, 1), "x")]),
            ("a", FIRST, None, [("b", (1, 1, 1), "x")]),
            ("a", (3, 2, 5), None, [("a", (3, 2, 5), None), ("b", (1, 1, 1), "x")]),
            ("b", (2, 1, 2), "y", [("a", (3, 2, 5), None), ("b", (2, 1, 2), "y")]),
            ("b", (1, 9, 9), "z", [("a", (3, 2, 5), None), ("b", (2, 1, 2), "y")]),
            ("b", FIRST, None, [("a", (3, 2, 5), None), ("b", (2, 1, 2), "y")]),
            ("b", (2, 1, 3), "w", [("a", (3, 2, 5), None), ("b", (2, 1, 3), "w")]),
        ]):
            if k % 2 == 0:
                client.begin(("look", name))
                client.take(told("told", (name, stamp, text), k + 1))
                self.assertEqual(client.result(), ("looked", stamp, text))
            else:
                client.begin(("lease", name, "read"))
                client.take(told("granted", (name, "read", stamp, text), k + 1))
                self.assertEqual(client.result(), ("leased", "read", stamp, text))
                self.assertEqual(client.quick(name), (stamp, text))
            self.assertEqual(client.cache(), tuple(cache))

    def test_answers_that_do_not_count(self):
        client = Client(1, (2, 0, ()))
        client.take(told("told", ("a", (1, 1, 1), "x"), 1))
        client.begin(("look", "a"))
        client.take(told("told", ("a", (1, 1, 1), "x"), 2))
        self.assertEqual(client.cache(), ())
        client.take(told("told", ("a", (1, 1, 1), "x"), 1))
        client.take(told("told", ("a", (2, 1, 1), "y"), 1))
        self.assertEqual(client.cache(), (("a", (1, 1, 1), "x"),))

    def test_holds_and_writes_do_not_count(self):
        client = Client(1, (2, 0, ()))
        client.begin(("lease", "a", "write"))
        client.take(told("granted", ("a", "write", (1, 1, 1), "x"), 1))
        client.begin(("hold", "a", ("put", "y")))
        client.take((1, "server", (2, 0), "done", (1, "applied", (2, 1, 1))))
        self.assertEqual(client.quick("a"), ((2, 1, 1), "y"))
        self.assertEqual(client.cache(), (("a", (1, 1, 1), "x"),))

    def test_files_take_the_later_ones(self):
        client = with_cache([("a", (5, 1, 1), "x"), ("b", (5, 1, 2), "x"), ("d", (5, 1, 3), "x")])
        files = [("a", (4, 1, 1), "old"), ("b", (6, 1, 1), None), ("c", (1, 1, 1), "new"), ("d", (5, 2, 1), "y"),
                 ("e", FIRST, None)]
        k = client.begin(("refresh",))[1][0][2][1]
        client.take(told("values", (2, 9, (1, 1)), k))
        while client.again()[1][0][3] == "sums":
            client.take(told("values", (client.again()[1][0][4][0], 9, ()), client.again()[1][0][2][1]))
        client.take(told("files", (tuple(files),), client.again()[1][0][2][1]))
        self.assertEqual(client.cache(), (("a", (5, 1, 1), "x"), files[1], files[2], files[3]))
        self.assertEqual(client.result(), ("refreshed", 4))


class Refresh(unittest.TestCase):
    def test_of_an_empty_server(self):
        client = Client(1, (2, 0, ()))
        self.assertEqual(client.begin(("refresh",)), ((), (asked("sums", (2,), 1),)))
        self.assertEqual(client.running(), ("refresh",))
        self.assertEqual(client.again(), ((), (asked("sums", (2,), 1),)))
        self.assertEqual(client.take(told("values", (2, 0, (1, 1)), 1)), ((), ()))
        self.assertIsNone(client.running())
        self.assertEqual(client.result(), ("refreshed", 0))

    def test_letter_by_letter(self):
        files = [("a", (1, 1, 1), "x"), ("b", (2, 1, 2), None)]
        numbers = [number_of(name, stamp) for name, stamp, _ in files]
        client = Client(1, (2, 0, ()))
        client.begin(("refresh",))
        answer = serve(table_of(files), asked("sums", (2,), 1))[1][0]
        polynomial = (numbers[0] * numbers[1] % P, -(numbers[0] + numbers[1]) % P, 1)
        for letter in [told("values", (2, 2, (5, 5)), 2), told("files", ((),), 2), (1, "server", (1, 1)) + answer[3:]]:
            self.assertEqual(client.take(letter), ((), ()))
        turn = client.take(answer)
        self.assertEqual(turn, ((), (asked("roots", (polynomial,), 2),)))
        self.assertEqual(client.again(), turn)
        self.assertEqual(client.take(answer), ((), ()))
        self.assertEqual(client.cache(), ())
        self.assertEqual(client.take(told("files", (tuple(files),), 2)), ((), ()))
        self.assertEqual(client.cache(), tuple(files))
        self.assertEqual((client.running(), client.result()), (None, ("refreshed", 2)))

    def test_of_a_cache_that_is_alike(self):
        for many in (0, 1, 7, 300):
            client = with_cache(files_of(many))
            self.assertEqual(refreshed(client, table_of(files_of(many))), [("sums", (2,))])
            self.assertEqual(client.result(), ("refreshed", many))
            self.assertEqual(client.cache(), tuple(files_of(many)))

    def test_of_a_cache_that_is_unlike_in_few_and_in_many_files(self):
        files = files_of(100)
        for unlike, sums in [(1, [2]), (2, [2, 4]), (3, [2, 4, 8]), (4, [2, 4, 8]), (5, [2, 4, 8, 16]),
                             (16, [2, 4, 8, 16, 32]), (32, [2, 4, 8, 16, 32, 64])]:
            # A file with a newer stamp is unlike in two pairs: the older and the newer one.
            newer = files_of(unlike, 2) + files[unlike:]
            client = with_cache(files)
            words = refreshed(client, table_of(newer))
            self.assertEqual(words[:-1], [("sums", (many,)) for many in sums])
            self.assertEqual(words[-1][0], "roots")
            self.assertEqual(len(words[-1][1][0]), unlike + 1)
            self.assertEqual(client.cache(), tuple(newer))
            self.assertEqual(client.result(), ("refreshed", 100))

    def test_of_a_cache_that_is_unlike_in_too_many_files(self):
        newer = files_of(33, 2) + files_of(100)[33:]
        client = with_cache(files_of(100))
        self.assertEqual(refreshed(client, table_of(newer)),
                         [("sums", (many,)) for many in (2, 4, 8, 16, 32, 64)] + [("roots", ((),))])
        self.assertEqual(client.cache(), tuple(newer))

    def test_of_an_empty_cache(self):
        for many, sums in [(1, [2]), (2, [2]), (3, [2, 4]), (64, [2, 4, 8, 16, 32, 64]), (65, [2, 4, 8, 16, 32, 64]),
                           (250, [2, 4, 8, 16, 32, 64])]:
            client = Client(1, (2, 0, ()))
            words = refreshed(client, table_of(files_of(many)))
            self.assertEqual(words[:-1], [("sums", (k,)) for k in sums])
            self.assertEqual(words[-1][0], "roots")
            self.assertEqual(words[-1][1][0] == (), many > 64)
            self.assertEqual(client.cache(), tuple(files_of(many)))
            self.assertEqual(client.result(), ("refreshed", many))

    def test_of_files_removed(self):
        files = files_of(9)
        removed = files[:3] + [("ad", (2, 3, 1), None)] + files[4:]
        client = with_cache(files)
        self.assertEqual(len(refreshed(client, table_of(removed))), 2)
        self.assertEqual(client.cache(), tuple(removed))

    def test_files_that_the_server_lacks(self):
        # No server forgets a file; where one does, f is (1,) and the cache stays as it is.
        client = with_cache(files_of(5))
        self.assertEqual(refreshed(client, table_of(files_of(4))), [("sums", (2,))])
        self.assertEqual(client.cache(), tuple(files_of(5)))
        self.assertEqual(client.result(), ("refreshed", 5))

    def test_values_of_the_wrong_length_or_size(self):
        for sums in [(), (1,), (1, 1, 1), (0, 1), (1, 0), (P, 1), (1, P), (P + 1, 1), (10 ** 29, 1), (1,) * 65]:
            client = Client(1, (2, 0, ()))
            client.begin(("refresh",))
            self.assertEqual(client.take(told("values", (2, 0, sums), 1)), ((), (asked("sums", (4,), 2),)))
        # Nought, however it is told, is no value, though here z - P + 1 would part the lots.
        for sums in [(0, P - 1), (P, P - 1), (2 * P, P - 1), (0, 2 * P - 1)]:
            client = Client(1, (2, 0, ()))
            client.begin(("refresh",))
            self.assertEqual(client.take(told("values", (2, 1, sums), 1)), ((), (asked("sums", (4,), 2),)))
        client = Client(1, (2, 0, ()))
        client.begin(("refresh",))
        self.assertEqual(client.take(told("values", (2, 0, (P - 1, 1)), 1)), ((), (asked("sums", (4,), 2),)))
        for k, many in enumerate([4, 8, 16, 32], start=2):
            self.assertEqual(client.take(told("values", (many, 10 ** 11, (1,) * many), k)),
                             ((), (asked("sums", (2 * many,), k + 1),)))
        self.assertEqual(client.take(told("values", (64, 0, ()), 6)), ((), (asked("roots", ((),), 7),)))
        self.assertEqual(client.again(), ((), (asked("roots", ((),), 7),)))
        self.assertEqual(client.take(told("values", (64, 0, (1,) * 64), 6)), ((), ()))
        self.assertEqual(client.take(told("files", ((),), 7)), ((), ()))
        self.assertEqual(client.result(), ("refreshed", 0))

    def test_a_pair_of_unlike_degrees(self):
        # Of four values, three pairs: one newer file is two of them, one new file is the third.
        client = with_cache(files_of(4))
        newer = [("aa", (2, 2, 1), "y")] + files_of(5)[1:]
        words = refreshed(client, table_of(newer))
        self.assertEqual([word for word, _ in words], ["sums", "sums", "roots"])
        self.assertEqual(client.cache(), tuple(newer))

    def test_beside_a_pending_write(self):
        client = Client(1, (2, 1, ((1, "a", None, ("remove",)),)))
        write = ("server", 1, (2, 0), "do", (1, "a", None, ("remove",)))
        client.begin(("refresh",))
        self.assertEqual(client.again(), ((), (write, asked("sums", (2,), 1))))
        client.take((1, "server", (2, 0), "done", (1, "unfit", FIRST)))
        self.assertEqual(client.again(), ((), (asked("sums", (2,), 1),)))

    def test_caches_of_copies_go_on_apart(self):
        client = with_cache(files_of(3))
        twin = client.copy()
        refreshed(twin, table_of(files_of(4)))
        self.assertEqual((len(client.cache()), len(twin.cache())), (3, 4))


if __name__ == "__main__":
    unittest.main()
