"""Point 16: lots told by few values, roots, differences, and the numbers of files."""

import itertools
import random
import unittest

from leasefiles.disks import Disk
from leasefiles.errors import (
    NoName, NoNumber, NoNumbers, NoPlaces, NoPolynomial, NoPrime, NoStamp, NoValues,
)
from leasefiles.values import difference, number_of, roots, values
from tests.samples import all_values

P = 2 ** 89 - 1
NO_PRIMES = [1, 4, 0, -1, -2, -7, 9, 25, 49, 9999, 9409, 10007, 10000, 10009, P - 1, P + 2, 2 * P, P - 2, 2 ** 61 - 1,
             True, False, None, "7", (7,), [7], {}, Disk()]
NO_LOTS = [(2, 1), (1, 1), (1, 2, 2), (3, 1, 2), (-1,), (-1, 1), (97,), (1, 97), (98,), (True,), (0, True), (None,),
           ("1",), ((1,),), [1], [], None, 1, "", {}, Disk()]


def valued(prime, polynomial, place):
    return sum(coefficient * place ** k for k, coefficient in enumerate(polynomial)) % prime


def products(prime, lot, places):
    found = []
    for place in places:
        product = 1
        for number in lot:
            product *= place - number
        found.append(product % prime)
    return tuple(found)


def multiplied(prime, first, second):
    product = [0] * (len(first) + len(second) - 1)
    for k, one in enumerate(first):
        for m, other in enumerate(second):
            product[k + m] = (product[k + m] + one * other) % prime
    return tuple(product)


def with_roots(prime, numbers):
    """The polynomial that has just these roots, each once."""
    polynomial = (1,)
    for number in numbers:
        polynomial = multiplied(prime, polynomial, (-number % prime, 1))
    return polynomial


def leading_one(prime, degree):
    return [rest + (1,) for rest in itertools.product(range(prime), repeat=degree)]


def share_a_factor(prime, first, second):
    for degree in range(1, min(len(first), len(second))):
        for factor in leading_one(prime, degree):
            if all(any(multiplied(prime, factor, other) == whole
                       for other in leading_one(prime, len(whole) - 1 - degree)) for whole in (first, second)):
                return True
    return False


def all_pairs(prime, own, many, places, told, most):
    """Each pair that difference may tell, straight from the point."""
    found = []
    ours = products(prime, own, places)
    for below in range(most + 1):
        above = below + many - len(own)
        if above < 0 or above + below > most:
            continue
        for g in leading_one(prime, below):
            if len([x for x in own if valued(prime, g, x) == 0]) != below:
                continue
            for f in leading_one(prime, above):
                fits = all((valued(prime, f, z) * mine - valued(prime, g, z) * theirs) % prime == 0
                           for z, mine, theirs in zip(places, ours, told))
                if fits and not share_a_factor(prime, f, g):
                    found.append((f, g))
    return found


class Primes(unittest.TestCase):
    def test_all_small_ones(self):
        sieve = [True] * 10000
        sieve[0] = sieve[1] = False
        for number in range(2, 100):
            for multiple in range(number * number, 10000, number):
                sieve[multiple] = False
        for number in range(10000):
            if sieve[number]:
                self.assertEqual(values(number, (), ()), ())
            else:
                with self.assertRaises(NoPrime):
                    values(number, (), ())

    def test_the_first_the_last_and_the_great_one(self):
        for prime in (2, 9973, P):
            self.assertEqual(values(prime, (0,), (1,)), (1,))
            self.assertEqual(roots(prime, (0, 1), (0, 1)), (0,))
            self.assertEqual(difference(prime, (0,), 0, (1,), (1,), 1), ((1,), (0, 1)))

    def test_no_primes(self):
        for prime in NO_PRIMES:
            for call in (lambda: values(prime, (), ()), lambda: roots(prime, (1,), ()),
                         lambda: difference(prime, (), 0, (), (), 0), lambda: values(prime, None, None),
                         lambda: roots(prime, None, None), lambda: difference(prime, 0, -1, 0, 0, -1)):
                with self.assertRaises(NoPrime, msg=prime) as caught:
                    call()
                self.assertIs(type(caught.exception), NoPrime)


class Values(unittest.TestCase):
    def test_values(self):
        self.assertEqual(values(97, (1, 2, 5), (0, 10)), (87, 69))
        self.assertEqual(values(97, (), (0, 5, 96)), (1, 1, 1))
        self.assertEqual(values(97, (5,), (4, 6)), (96, 1))
        self.assertEqual(values(97, (1, 2), ()), ())
        self.assertEqual(values(2, (), (0, 1)), (1, 1))
        self.assertEqual(values(2, (1,), (0,)), (1,))
        self.assertEqual(values(2, (0, 1), ()), ())
        self.assertEqual(values(97, (5, 96), (7, 0, 95)), values(97, (5, 96), (7,)) + values(97, (5, 96), (0, 95)))
        self.assertEqual(values(P, (0, P - 3), (P - 1, P - 2)), (P - 2, P - 2))

    def test_as_told(self):
        chance = random.Random(3)
        for prime in (5, 97, 9973, P):
            for _ in range(30):
                numbers = [chance.randrange(prime) for _ in range(chance.randrange(12))]
                places = [place for place in {chance.randrange(prime) for _ in range(9)} if place not in numbers]
                lot = tuple(sorted(set(numbers)))
                self.assertEqual(values(prime, lot, tuple(places)), products(prime, lot, places))

    def test_long_lots(self):
        lot = tuple(range(200))
        self.assertEqual(values(9973, lot, (200, 9972)), products(9973, lot, (200, 9972)))
        with self.assertRaises(NoNumbers):
            values(9973, tuple(range(201)), (500,))

    def test_no_lots(self):
        for lot in NO_LOTS:
            with self.assertRaises(NoNumbers, msg=lot) as caught:
                values(97, lot, (50,))
            self.assertIs(type(caught.exception), NoNumbers)
        for prime, lot in [(2, (2,)), (2, (0, 1, 2)), (9973, (9973,)), (P, (P,)), (P, (0, P + 1))]:
            with self.assertRaises(NoNumbers):
                values(prime, lot, ())

    def test_places(self):
        self.assertEqual(len(values(97, (90,), tuple(range(64)))), 64)
        wrong = [tuple(range(65)), (1, 1), (1, 2, 1), (-1,), (97,), (98,), (True,), (None,), ("1",), [1], [], None, 1,
                 (90,), (1, 2, 90), (90, 1), {}, "", Disk(), ((1,),)]
        for places in wrong:
            with self.assertRaises(NoPlaces, msg=places) as caught:
                values(97, (90, 91), places)
            self.assertIs(type(caught.exception), NoPlaces)

    def test_the_first_wrong_argument_counts(self):
        for prime, lot, places, error in [(4, (2, 1), (1, 1), NoPrime), (7, (2, 1), (1, 1), NoNumbers),
                                          (7, (1, 2), (1, 1), NoPlaces), (True, None, None, NoPrime)]:
            with self.assertRaises(error):
                values(prime, lot, places)


class Roots(unittest.TestCase):
    def test_roots(self):
        polynomial = with_roots(97, (1, 5, 5, 96))
        self.assertEqual(roots(97, polynomial, (0, 1, 2, 5, 6, 95, 96)), (1, 5, 96))
        self.assertEqual(roots(97, polynomial, (0, 2)), ())
        self.assertEqual(roots(97, polynomial, ()), ())
        self.assertEqual(roots(97, (1,), (0, 1)), ())
        self.assertEqual(roots(97, (0, 1), (0, 1)), (0,))
        self.assertEqual(roots(2, (1, 1), (0, 1)), (1,))
        self.assertEqual(roots(2, (0, 1, 1), (0, 1)), (0, 1))
        self.assertEqual(roots(P, (1, 1), (0, P - 1)), (P - 1,))

    def test_degrees_64_and_65(self):
        numbers = tuple(range(3, 67))
        self.assertEqual(roots(97, with_roots(97, numbers), tuple(range(97))), numbers)
        self.assertEqual(roots(97, (0,) * 64 + (1,), (0, 1)), (0,))
        with self.assertRaises(NoPolynomial):
            roots(97, (0,) * 65 + (1,), (0, 1))

    def test_no_polynomials(self):
        wrong = [(), (0,), (2,), (1, 0), (0, 1, 0), (1, 2), (97, 1), (-1, 1), (98, 1), (True, 1), (1, True), (True,),
                 (None, 1), ("1", 1), [1], [0, 1], None, 1, "", {}, (0,) * 65 + (1,), Disk(), ((0,), 1)]
        for polynomial in wrong:
            for lot in ((1, 2), (2, 1), None):
                with self.assertRaises(NoPolynomial, msg=polynomial) as caught:
                    roots(97, polynomial, lot)
                self.assertIs(type(caught.exception), NoPolynomial)

    def test_no_lots(self):
        for lot in NO_LOTS + [tuple(range(97)) + (97,)]:
            with self.assertRaises(NoNumbers, msg=lot):
                roots(97, (0, 1), lot)
        self.assertEqual(roots(9973, (0, 1), tuple(range(200))), (0,))
        with self.assertRaises(NoNumbers):
            roots(9973, (0, 1), tuple(range(201)))


class Difference(unittest.TestCase):
    def told(self, prime, own, other, many, most):
        places = tuple([place for place in range(prime - 1, -1, -1) if place not in own + other][:many])
        self.assertEqual(len(places), many)
        return difference(prime, own, len(other), places, values(prime, other, places), most)

    def test_like_lots(self):
        for lot in [(), (1,), (3, 7, 20), tuple(range(30))]:
            for many, most in [(0, 0), (1, 0), (1, 1), (5, 3), (8, 8)]:
                self.assertEqual(self.told(97, lot, lot, many, most), ((1,), (1,)))

    def test_unlike_lots(self):
        for own, other in [((), (5,)), ((5,), ()), ((5,), (6,)), ((1, 2, 3), (2, 3, 4, 9)), ((1, 2, 3, 4), (4,)),
                           ((0, 5, 10), (1, 6, 11)), ((0,), (1, 2, 3)), ((8,), (1, 8))]:
            unlike = len(set(own) ^ set(other))
            pair = (with_roots(97, [x for x in other if x not in own]), with_roots(97, [x for x in own if x not in other]))
            for most in range(10):
                for many in (most, most + 1, most + 5):
                    if unlike <= most:
                        self.assertEqual(self.told(97, own, other, many, most), pair, (own, other, most, many))
                    elif most + unlike <= 2 * many:
                        self.assertIsNone(self.told(97, own, other, many, most), (own, other, most, many))

    def test_in_just_most_and_one_more(self):
        own, other = tuple(range(0, 60, 2)), tuple(range(0, 60, 2))[4:] + (61, 63, 65, 67)
        pair = (with_roots(9973, (61, 63, 65, 67)), with_roots(9973, (0, 2, 4, 6)))
        self.assertEqual(self.told(9973, own, other, 8, 8), pair)
        self.assertEqual(self.told(9973, own, other, 20, 9), pair)
        self.assertIsNone(self.told(9973, own, other, 8, 7))
        self.assertIsNone(self.told(9973, own, other + (69,), 9, 8))
        self.assertIsNone(self.told(9973, own, other[1:], 9, 8))

    def test_of_the_great_prime(self):
        own = (1, 10 ** 20, 10 ** 24, 2 * 10 ** 24)
        other = (1, 5, 10 ** 24, 2 * 10 ** 24 + 1, 3 * 10 ** 24)
        pair = (with_roots(P, (5, 2 * 10 ** 24 + 1, 3 * 10 ** 24)), with_roots(P, (10 ** 20, 2 * 10 ** 24)))
        places = tuple([P - k for k in range(1, 9)])
        told = values(P, other, places)
        for most in (5, 6, 7, 8):
            self.assertEqual(difference(P, own, 5, places, told, most), pair)
        for most in (0, 1, 2, 3, 4):
            self.assertIsNone(difference(P, own, 5, places, told, most))
        self.assertEqual(difference(P, own, 5, places[:5], told[:5], 5), pair)

    def test_of_64_places(self):
        own, other = tuple(range(0, 100)), tuple(range(32, 132))
        pair = (with_roots(P, range(100, 132)), with_roots(P, range(32)))
        places = tuple([P - k for k in range(1, 65)])
        self.assertEqual(difference(P, own, 100, places, values(P, other, places), 64), pair)
        self.assertIsNone(difference(P, own, 100, places, values(P, other, places), 63))

    def test_numbers_far_apart(self):
        for many in (0, 1, 2, 8, 200):
            self.assertIsNone(difference(97, (1, 2, 3, 4, 5), many, (90, 91), (1, 1), 2))

    def test_lots_of_no_numbers(self):
        self.assertEqual(difference(97, (), 0, (), (), 0), ((1,), (1,)))
        self.assertIsNone(difference(97, (), 1, (), (), 0))
        self.assertEqual(difference(97, (), 0, (3,), (1,), 1), ((1,), (1,)))
        self.assertIsNone(difference(97, (), 0, (3,), (2,), 1))
        self.assertEqual(difference(97, (), 1, (3,), (1,), 1), ((95, 1), (1,)))

    def test_values_of_no_lot(self):
        # f need not have as many roots as its degree: 2 is no square modulo 5.
        self.assertEqual(difference(5, (), 2, (0, 1), (3, 4), 2), ((3, 0, 1), (1,)))
        # g must have them among own: 2 is one of own's numbers, 3 is none.
        self.assertEqual(difference(5, (2,), 0, (0, 1), (1, 1), 2), ((1,), (3, 1)))
        self.assertIsNone(difference(5, (2,), 0, (0, 1), (4, 3), 2))
        # A factor of both is nought at place 0, where the values part nothing.
        self.assertIsNone(difference(5, (1,), 1, (0, 2), (3, 1), 2))

    def test_all_small_ones(self):
        chance = random.Random(11)
        found = 0
        for _ in range(500):
            prime = chance.choice([2, 3, 5])
            own = tuple(sorted(chance.sample(range(prime), chance.randrange(prime))))
            free = [place for place in range(prime) if place not in own]
            places = tuple(chance.sample(free, chance.randrange(len(free) + 1)))
            many = chance.randrange(5)
            told = tuple([chance.randrange(1, prime) for _ in places])
            if chance.randrange(2):
                other = tuple([x for x in range(prime) if x not in places and chance.randrange(2)])
                many, told = len(other), values(prime, other, places)
            most = chance.randrange(len(places) + 1)
            pairs = all_pairs(prime, own, many, places, told, most)
            self.assertLessEqual(len(pairs), 1)
            pair = difference(prime, own, many, places, told, most)
            self.assertEqual(pair, pairs[0] if pairs else None, (prime, own, many, places, told, most))
            found += pair is not None
        self.assertGreater(found, 50)

    def test_what_parts_them_or_none_and_nothing_else(self):
        chance = random.Random(5)
        for _ in range(300):
            own = tuple(sorted(chance.sample(range(60), chance.randrange(8))))
            other = tuple(sorted(chance.sample(range(60), chance.randrange(8))))
            unlike = len(set(own) ^ set(other))
            most = chance.randrange(9)
            many = max(most, (most + unlike + 1) // 2)
            pair = (with_roots(97, set(other) - set(own)), with_roots(97, set(own) - set(other)))
            self.assertEqual(self.told(97, own, other, many, most), pair if unlike <= most else None)

    def test_wrong_arguments(self):
        right = (97, (1, 2), 2, (50, 51), (1, 2), 2)
        difference(*right)
        wrong = {
            1: (NoNumbers, NO_LOTS + [tuple(range(201))]),
            2: (NoNumber, [-1, 201, True, None, "2", (2,), [2], 10 ** 20, Disk()]),
            3: (NoPlaces, [(50, 50), (1, 50), (50, 2), (97, 50), (-1, 50), (True, 50), [50, 51], None, 2, "",
                           tuple(range(3, 68)), Disk()]),
            4: (NoValues, [(1,), (1, 2, 3), (), (0, 1), (1, 0), (1, 97), (98, 1), (-1, 1), (True, 1), (1, None), [1, 2],
                           None, 2, "12", ("1", "2"), {}, Disk()]),
            5: (NoNumber, [-1, 3, True, None, "2", (2,), [], 64, 10 ** 20, Disk()]),
        }
        for k, (error, things) in wrong.items():
            for thing in things:
                with self.assertRaises(error, msg=(k, thing)) as caught:
                    difference(*right[:k], thing, *right[k + 1:])
                self.assertIs(type(caught.exception), error)
                for later in range(k + 1, 6):
                    handed = list(right)
                    handed[k], handed[later] = thing, Disk()
                    with self.assertRaises(error):
                        difference(*handed)

    def test_edges_of_the_numbers(self):
        self.assertIsNone(difference(9973, (), 200, (5,), (1,), 1))
        self.assertIsNone(difference(9973, tuple(range(200)), 0, (500,), (1,), 1))
        with self.assertRaises(NoNumbers):
            difference(9973, tuple(range(201)), 0, (500,), (1,), 1)


class Numbers(unittest.TestCase):
    def test_numbers(self):
        for name, stamp, told in [
            ("a", (0, 0, 0), 10 ** 13), ("z", (0, 0, 0), 26 * 10 ** 13), ("aa", (0, 0, 0), 28 * 10 ** 13),
            ("ab", (0, 0, 0), 29 * 10 ** 13), ("ba", (0, 0, 0), 55 * 10 ** 13), ("zz", (0, 0, 0), 728 * 10 ** 13),
            ("a", (1, 1, 1), 10 ** 13 + 11000001), ("a", (2, 9, 34), 10 ** 13 + 29000034),
            ("abc", (10, 2, 5), (1 * 729 + 2 * 27 + 3) * 10 ** 13 + 102000005),
            ("zzzzzzzz", (999999, 9, 999999), (27 ** 8 - 1) * 10 ** 13 + 9999999999999),
        ]:
            self.assertEqual(number_of(name, stamp), told)

    def test_unlike_pairs_have_unlike_numbers(self):
        names = ["a", "b", "z", "aa", "ab", "ba", "az", "za", "zz", "abcdefgh", "zzzzzzzz", "hgfedcba"]
        stamps = [(0, 0, 0)] + [(count, client, number) for count in (1, 2, 10, 999999) for client in (1, 2, 9)
                                for number in (1, 2, 10, 999999)]
        numbers = {number_of(name, stamp) for name in names for stamp in stamps}
        self.assertEqual(len(numbers), len(names) * len(stamps))
        self.assertTrue(all(0 <= number < P - 64 for number in numbers))

    def test_wrong_arguments(self):
        for name in ["", "A", "abcdefghi", None, 1, True, ("a",), ["a"]] + all_values():
            if name != "a" and name != "put" and name != "remove":
                for stamp in ((1, 1, 1), None):
                    with self.assertRaises(NoName):
                        number_of(name, stamp)
        for stamp in [None, (), (0, 0, 1), (1, 1), (1, 1, 0), (1, 10, 1), [1, 1, 1], (True, 1, 1), (False, 0, 0), 0, "",
                      Disk()]:
            with self.assertRaises(NoStamp):
                number_of("a", stamp)


if __name__ == "__main__":
    unittest.main()
