"""Point 19: histories, their right orders and bars."""

import itertools
import random
import unittest

from leasefiles.errors import NoHistory
from leasefiles.histories import bar, is_bar, is_history, is_right_order, right_order
from tests.samples import all_values, nested, package_objects

FUNCTIONS = [right_order, bar, lambda history: is_right_order(history, []), lambda history: is_bar(history, ())]
RIGHT = {
    "kind": ["read", "write"],
    "name": ["", "a", "any name at all", "\n", "x" * 20000],
    "told": [0, -5, 10 ** 30 - 1, "", "a~'", (), (1, (None, "b")), nested(tuple, 30)],
    "begin": [-(10 ** 29), -1, 0, 2],
    "end": [3, 10 ** 29, None],
}
WRONG = {
    "kind": ["", "Read", "reads", "look", None, 1, True, ("read",), ["write"], {}],
    "name": [None, 0, True, ("a",), ["a"], {"a": 1}],
    "told": [True, False, 10 ** 30, "a\n", [1], (1, [2]), {}, (True,), nested(tuple, 31), ("put", {})],
    "begin": [None, True, False, "0", (0,), [0], 3, 4],
    "end": [2, 1, True, False, "9", (9,), [9]],
}
PLAIN = ("read", "a", 1, 2, 3)


def write(name, told, begin, end):
    return ("write", name, told, begin, end)


def read(name, told, begin, end):
    return ("read", name, told, begin, end)


def stands(history, order):
    """Whether an order of fit indexes is right, straight from the words of the point."""
    for k, first in enumerate(order):
        for second in order[k + 1:]:
            one, other = history[first], history[second]
            if one[1] == other[1] and other[4] is not None and other[4] < one[3]:
                return False
    written = {}
    for k in order:
        kind, name, told = history[k][:3]
        if kind == "write":
            written[name] = told
        elif written.get(name) != told:
            return False
    return True


def all_orders(history):
    """Yields all orders of a short history."""
    ended = [k for k, call in enumerate(history) if call[4] is not None]
    others = [k for k, call in enumerate(history) if call[4] is None and call[0] == "write"]
    for many in range(len(others) + 1):
        for some in itertools.combinations(others, many):
            yield from itertools.permutations(ended + list(some))


def all_bars(history):
    """Yields all things that have the form of a bar."""
    for word, many in [("strange", 1), ("early", 1), ("late", 2), ("crossed", 4)]:
        for indexes in itertools.product(range(len(history)), repeat=many):
            yield (word,) + indexes


def bars_by_words(history, thing):
    """Whether a thing of the form of a bar is one, straight from the words of the point."""
    word = thing[0]
    calls = [history[k] for k in thing[1:]]

    def wrote(read):
        return [call for call in history if call[:3] == ("write",) + read[1:3]]

    def ahead(one, other):
        return one[4] is not None and one[4] < other[3]

    if word == "strange":
        return calls[0][0] == "read" and calls[0][4] is not None and calls[0][2] is not None and not wrote(calls[0])
    if word == "early":
        return calls[0][0] == "read" and any(ahead(calls[0], call) for call in wrote(calls[0]))
    if word == "late":
        call, end = calls
        fit = call[0] == "write" or call[4] is not None and call[2] is not None
        return fit and end[0] == "read" and end[4] is not None and end[2] is None and call[1] == end[1] and ahead(call, end)
    a, b, c, d = calls
    if any(call[0] == "read" and call[4] is None or call[2] is None for call in calls):
        return False
    if len({call[1] for call in calls}) > 1 or a[2] != b[2] or c[2] != d[2] or a[2] == c[2]:
        return False
    return ahead(a, c) and ahead(d, b)


def drawn_history(chance, many):
    names = chance.choice([["a"], ["a"], ["a", "b"]])
    moments = list(range(2 * many))
    chance.shuffle(moments)
    # Moments that lie near each other make few calls overlap.
    if chance.random() < 0.5:
        moments.sort(key=lambda moment: moment + chance.randrange(6))
    calls = []
    for k in range(many):
        begin, end = sorted(moments[2 * k:2 * k + 2])
        end = None if chance.random() < 0.2 else end
        if chance.random() < 0.45:
            calls.append(write(chance.choice(names), ("w", k), begin, end))
        else:
            calls.append(read(chance.choice(names), chance.choice([None] + [("w", j) for j in range(many)]), begin, end))
    chance.shuffle(calls)
    return tuple(calls)


def true_history(chance, many):
    """A history of calls each of which was done at one moment between its begin and its end; some are not ended."""
    calls = []
    files = {}
    for k in range(many):
        moment = 20 * k
        begin = moment - chance.randrange(100) * 20 - 19 + chance.randrange(9)
        end = moment + chance.randrange(100) * 20 + 1 + chance.randrange(9)
        name = chance.choice(["a", "b"])
        if chance.random() < 0.4:
            files[name] = ("w", k)
            calls.append(["write", name, ("w", k), begin, end])
        else:
            calls.append(["read", name, files.get(name), begin, end])
    taken = set()
    for call in calls:
        for place in (3, 4):
            while call[place] in taken:
                call[place] += 1 if place == 4 else -1
            taken.add(call[place])
        if chance.random() < 0.1:
            call[4] = None
    chance.shuffle(calls)
    return tuple([tuple(call) for call in calls])


class Histories(unittest.TestCase):
    def test_each_part_right(self):
        for k, part in enumerate(RIGHT):
            for value in RIGHT[part]:
                call = PLAIN[:k] + (value,) + PLAIN[k + 1:]
                self.assertIs(is_history((call,)), True, call)
        self.assertIs(is_history((read("a", None, 2, 3),)), True)
        self.assertIs(is_history((read("a", None, 2, None),)), True)
        self.assertIs(is_history((write("a", 0, 2, None),)), True)
        self.assertIs(is_history(()), True)

    def test_each_part_wrong(self):
        for k, part in enumerate(WRONG):
            for value in WRONG[part] + package_objects():
                for kind in ("read", "write"):
                    call = ((kind,) + PLAIN[1:])[:k] + (value,) + PLAIN[k + 1:]
                    self.assertIs(is_history((call,)), False, call)
                    self.assertIs(is_history((("write", "b", 5, 8, 9), call)), False)
        self.assertIs(is_history((write("a", None, 2, 3),)), False)
        self.assertIs(is_history((write("a", None, 2, None),)), False)

    def test_other_forms(self):
        for thing in [PLAIN, [PLAIN], (list(PLAIN),), (PLAIN[:4],), (PLAIN + (4,),), (None,), ((),), None, {}, "",
                      {PLAIN: 1}, (PLAIN, None), ((PLAIN,),)]:
            self.assertIs(is_history(thing), False, thing)
        for thing in all_values():
            self.assertIs(is_history(thing), thing == ())

    def test_moments_alike(self):
        first = write("a", 1, 0, 10)
        for begin, end in [(0, 5), (10, 20), (5, 10), (-5, 0), (0, 10), (0, None), (10, None)]:
            self.assertIs(is_history((first, read("a", 1, begin, end))), False)
            self.assertIs(is_history((read("a", 1, begin, end), first)), False)
            # At two names they may be alike.
            self.assertIs(is_history((first, read("b", 1, begin, end))), True)
        self.assertIs(is_history((read("a", 1, 0, None), read("a", 2, 0, None))), False)
        self.assertIs(is_history((read("a", 1, 0, None), read("a", 2, 1, None))), True)

    def test_writes_that_told_alike(self):
        for told, other in [(1, 1), ("x", "x"), ((1, None), (1, None)), (nested(tuple, 30), nested(tuple, 30))]:
            self.assertIs(is_history((write("a", told, 0, 1), write("a", other, 2, 3))), False)
            self.assertIs(is_history((write("a", told, 0, None), write("a", other, 2, None))), False)
            self.assertIs(is_history((write("a", told, 0, 1), write("b", other, 2, 3))), True)
            self.assertIs(is_history((write("a", told, 0, 1), read("a", other, 2, 3), read("a", other, 4, 5))), True)
        for told, other in [(1, "1"), (1, (1,)), ((), ""), ((1, 2), (2, 1)), (".", ())]:
            self.assertIs(is_history((write("a", told, 0, 1), write("a", other, 2, 3))), True)

    def test_no_histories(self):
        wrong = [value for value in all_values() if value != ()]
        for thing in wrong + [[], [PLAIN], (PLAIN, PLAIN), PLAIN, (write("a", None, 0, 1),)]:
            for function in FUNCTIONS:
                with self.assertRaises(NoHistory) as caught:
                    function(thing)
                self.assertIs(type(caught.exception), NoHistory)
            for judge in (is_right_order, is_bar):
                for other in (None, [0], ("early", 0), thing):
                    self.assertRaises(NoHistory, judge, thing, other)


class Orders(unittest.TestCase):
    HISTORY = (write("a", 1, 0, 3), read("a", 1, 1, 2), read("a", 1, 4, None), write("a", 2, 5, None),
               read("a", 2, 6, 7), write("a", 3, 8, None), read("b", None, 0, 1))

    def test_right_ones(self):
        for order in [[0, 1, 3, 4, 6], [6, 0, 1, 3, 4], [0, 6, 1, 3, 4], [0, 1, 3, 4, 6, 5], [0, 1, 3, 4, 5, 6]]:
            self.assertIs(is_right_order(self.HISTORY, order), True, order)
        self.assertIs(is_right_order((), []), True)

    def test_wrong_ones(self):
        for order in [
            [], [0, 1, 3, 4], [0, 1, 4, 6], [1, 3, 4, 6],
            [0, 1, 2, 3, 4, 6], [0, 1, 3, 4, 6, 2], [0, 0, 1, 3, 4, 6], [0, 1, 3, 4, 6, 6], [0, 1, 3, 4, 6, 7],
            [0, 1, 3, 4, -1], [0, 1, 3, 4, 6, -2], [False, 1, 3, 4, 6], [0, True, 3, 4, 6], [0, 1, 3, 4, "6"],
            [0, 1, 3, 4, None], [0, 1, 3, 4, 6, 10 ** 29], [0, 1, 3, 4, (6,)], [0, 1, 3, 4, [6]],
            [1, 0, 3, 4, 6], [0, 3, 1, 4, 6], [3, 0, 1, 4, 6], [0, 1, 4, 3, 6], [0, 1, 3, 5, 4, 6], [5, 0, 1, 3, 4, 6],
        ]:
            self.assertIs(is_right_order(self.HISTORY, order), False, order)

    def test_what_is_no_list(self):
        for thing in [(0, 1, 3, 4, 6), None, {0: 1}, "01346", True, 0] + package_objects():
            self.assertIs(is_right_order(self.HISTORY, thing), False)
        for thing in all_values():
            self.assertIs(is_right_order(self.HISTORY, thing), False)
            self.assertIs(is_right_order((), thing), thing == [])

    def test_the_empty_history(self):
        self.assertEqual(right_order(()), [])
        self.assertIsNone(bar(()))

    def test_names_do_not_bind_each_other(self):
        history = (write("a", 1, 0, 1), read("b", None, 2, 3), write("b", 1, 4, 5), read("a", 1, 6, 7))
        for order in itertools.permutations(range(4)):
            told = order.index(0) < order.index(3) and order.index(1) < order.index(2)
            self.assertIs(is_right_order(history, list(order)), told)

    def test_what_is_returned_is_new(self):
        order = right_order(self.HISTORY)
        order.append(99)
        self.assertEqual(right_order(self.HISTORY), order[:-1])
        self.assertIs(is_right_order(self.HISTORY, order[:-1]), True)


class Bars(unittest.TestCase):
    def assert_bar(self, history, thing):
        self.assertIs(is_bar(history, thing), True)
        self.assertIs(is_bar(history, bar(history)), True)
        self.assertIsNone(right_order(history))

    def test_strange(self):
        self.assert_bar((read("a", 1, 0, 1),), ("strange", 0))
        self.assert_bar((write("b", 1, 0, 1), read("a", 1, 2, 3)), ("strange", 1))
        self.assert_bar((write("a", 1, 0, 1), read("a", (1,), 2, 3)), ("strange", 1))
        for history in [(read("a", None, 0, 1),), (read("a", 1, 0, None),), (write("a", 1, 0, None), read("a", 1, 2, 3))]:
            self.assertIsNone(bar(history))
            for k in range(len(history)):
                self.assertIs(is_bar(history, ("strange", k)), False)

    def test_early(self):
        history = (read("a", 1, 0, 1), write("a", 1, 2, 3))
        self.assert_bar(history, ("early", 0))
        self.assert_bar((read("a", 1, 0, 1), write("a", 1, 2, None)), ("early", 0))
        self.assertIs(is_bar(history, ("early", 1)), False)
        for other in [(read("a", 1, 0, 2), write("a", 1, 1, 3)), (read("a", 1, 0, None), write("a", 1, 2, 3))]:
            self.assertIsNone(bar(other))
            self.assertIs(is_bar(other, ("early", 0)), False)

    def test_late(self):
        self.assert_bar((write("a", 1, 0, 1), read("a", None, 2, 3)), ("late", 0, 1))
        history = (write("a", 1, 0, None), read("a", 1, 1, 2), read("a", None, 3, 4))
        self.assert_bar(history, ("late", 1, 2))
        self.assertIs(is_bar(history, ("late", 0, 2)), False)
        self.assertIs(is_bar(history, ("late", 2, 1)), False)
        for history in [
            (write("a", 1, 0, 2), read("a", None, 1, 3)), (write("b", 1, 0, 1), read("a", None, 2, 3)),
            (write("a", 1, 0, 1), read("a", None, 2, None)), (read("a", None, 0, 1), read("a", None, 2, 3)),
            (write("a", 1, 0, 1), read("a", 1, 2, 3)),
        ]:
            self.assertIsNone(bar(history))
            self.assertIs(is_bar(history, ("late", 0, 1)), False)

    def test_crossed(self):
        history = (write("a", 1, 0, 1), write("a", 2, 2, 3), read("a", 1, 4, 5))
        self.assert_bar(history, ("crossed", 0, 2, 1, 1))
        self.assertIs(is_bar(history, ("crossed", 1, 1, 2, 0)), True)
        for thing in [("crossed", 0, 0, 1, 1), ("crossed", 0, 2, 2, 1), ("crossed", 2, 0, 1, 1), ("crossed", 1, 1, 0, 2)]:
            self.assertIs(is_bar(history, thing), False, thing)
        # The writes overlap, but two readers saw them in two orders.
        history = (write("a", 1, 0, 20), write("a", 2, 1, None), read("a", 1, 2, 3), read("a", 2, 4, 5),
                   read("a", 2, 6, 7), read("a", 1, 8, 9))
        self.assert_bar(history, ("crossed", 2, 5, 3, 3))
        self.assertIs(is_bar(history, ("crossed", 2, 5, 4, 4)), True)
        self.assertIs(is_bar(history, ("crossed", 3, 4, 5, 2)), True)
        self.assertIs(is_bar(history, ("crossed", 0, 5, 3, 3)), False)
        self.assertIsNone(bar(history[:5]))

    def test_wrong_forms(self):
        history = (write("a", 1, 0, 1), write("a", 2, 2, 3), read("a", 1, 4, 5), read("a", 9, 6, 7),
                   read("a", None, 8, 9), read("a", 8, 10, 11), write("a", 8, 12, 13))
        right = [("strange", 3), ("early", 5), ("late", 0, 4), ("crossed", 0, 2, 1, 1)]
        for thing in right:
            self.assertIs(is_bar(history, thing), True)
            for k in range(1, len(thing)):
                for wrong in [-1, 7, 10 ** 29, True, False, None, "1", (1,), [1]] + package_objects():
                    self.assertIs(is_bar(history, thing[:k] + (wrong,) + thing[k + 1:]), False)
            for other in [thing[:-1], thing + (0,), list(thing), thing[1:], (thing,), ("",) + thing[1:],
                          (thing[0].upper(),) + thing[1:], (None,) + thing[1:], (thing[0],)]:
                self.assertIs(is_bar(history, other), False)
        for thing in all_values():
            self.assertIs(is_bar(history, thing), False)


class Searches(unittest.TestCase):
    def test_against_all_orders_and_bars(self):
        kinds = {None: 0, "strange": 0, "early": 0, "late": 0, "crossed": 0}
        chance = random.Random(19)
        for _ in range(4000):
            history = drawn_history(chance, chance.randrange(1, 7))
            order, found = right_order(history), bar(history)
            self.assertIs(order is None, found is not None, history)
            if order is None:
                self.assertFalse(any(stands(history, other) for other in all_orders(history)), history)
                self.assertIs(is_bar(history, found), True)
            else:
                self.assertIs(is_right_order(history, order), True, history)
                self.assertIn(tuple(order), set(all_orders(history)))
                self.assertTrue(stands(history, order))
            kinds[None if found is None else found[0]] += 1
        self.assertGreater(min(kinds.values()), 10, kinds)

    def test_without_what_nobody_wrote(self):
        chance = random.Random(4)
        crossed = 0
        for _ in range(3000):
            history = drawn_history(chance, chance.randrange(3, 7))
            told = {(call[1], call[2]) for call in history if call[0] == "write"}
            history = tuple([call for call in history if call[2] is None or (call[1], call[2]) in told])
            found = bar(history)
            self.assertIs(right_order(history) is None, found is not None)
            self.assertIs(found is None, any(stands(history, other) for other in all_orders(history)), history)
            crossed += found is not None and found[0] == "crossed"
        self.assertGreater(crossed, 20)

    def test_judges_against_the_words(self):
        chance = random.Random(7)
        for _ in range(300):
            history = drawn_history(chance, chance.randrange(1, 6))
            barred = False
            for thing in all_bars(history):
                told = is_bar(history, thing)
                self.assertIs(told, bars_by_words(history, thing), (history, thing))
                barred = barred or told
            self.assertIs(barred, bar(history) is not None)
            for order in itertools.islice(all_orders(history), 0, None, 3):
                self.assertIs(is_right_order(history, list(order)), stands(history, order))

    def test_long_histories(self):
        chance = random.Random(150)
        for _ in range(20):
            history = true_history(chance, 150)
            self.assertIs(is_history(history), True)
            self.assertIsNone(bar(history))
            self.assertIs(is_right_order(history, right_order(history)), True)
            k = chance.choice([k for k, call in enumerate(history) if call[0] == "read" and call[4] is not None])
            spoiled = history[:k] + (history[k][:2] + (("w", -1),) + history[k][3:],) + history[k + 1:]
            self.assertIsNone(right_order(spoiled))
            self.assertIs(is_bar(spoiled, bar(spoiled)), True)

    def test_deep_things(self):
        deep, other = nested(tuple, 30), nested(tuple, 29)
        history = (write("a", deep, 0, 1), write("a", other, 2, 5), read("a", deep, 3, 4))
        self.assertIs(is_right_order(history, right_order(history)), True)
        history = (write("a", deep, 0, 1), write("a", other, 2, 3), read("a", deep, 4, 5))
        self.assertIs(is_bar(history, bar(history)), True)

    def test_equal_calls_give_equal_results(self):
        chance = random.Random(5)
        for _ in range(50):
            history = drawn_history(chance, 6)
            self.assertEqual((right_order(history), bar(history)), (right_order(history), bar(history)))


if __name__ == "__main__":
    unittest.main()
