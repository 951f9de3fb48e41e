"""Lots of numbers told by few values, and the numbers of files."""

from leasefiles.basics import is_count, is_name, is_number, is_stamp, is_whole
from leasefiles.differences import parted
from leasefiles.errors import (
    NoName, NoNumber, NoNumbers, NoPlaces, NoPolynomial, NoPrime, NoStamp, NoValues,
)
from leasefiles.polynomials import product_at, value_at
from leasefiles.rows import is_ascending

# An exponent is at most 64, so 2 ** 89 is written as two powers.
P = 2 ** 64 * 2 ** 25 - 1
SMALL = 10000
LONGEST_LOT = 200
MOST_PLACES = 64
HIGHEST_DEGREE = 64


def is_prime(thing):
    """Whether thing is a prime below 10000, or P."""
    if not is_whole(thing) or thing < 2 or thing >= SMALL:
        return is_whole(thing) and thing == P
    divisor = 2
    while divisor * divisor <= thing:
        if thing % divisor == 0:
            return False
        divisor += 1
    return True


def are_below(prime, items):
    """Whether all items are integers from 0 on below the prime."""
    return all([is_count(item) and item < prime for item in items])


def is_lot(prime, thing):
    """Whether thing is a lot."""
    if not isinstance(thing, tuple) or len(thing) > LONGEST_LOT:
        return False
    return are_below(prime, thing) and is_ascending(thing)


def are_places(prime, thing, lot):
    """Whether thing is a tuple of places, none of which is one of the lot's."""
    if not isinstance(thing, tuple) or len(thing) > MOST_PLACES or not are_below(prime, thing):
        return False
    return len(set(thing)) == len(thing) and not any([place in lot for place in thing])


def is_polynomial(prime, thing):
    """Whether thing is a polynomial of a degree that is told by roots."""
    if not isinstance(thing, tuple) or not 1 <= len(thing) <= HIGHEST_DEGREE + 1:
        return False
    return are_below(prime, thing) and thing[-1] == 1


def are_values(prime, thing, many):
    """Whether thing is a tuple of so many values, none of which is nought."""
    if not isinstance(thing, tuple) or len(thing) != many:
        return False
    return all([is_number(item) and item < prime for item in thing])


def values(prime, lot, places):
    """For each place the product of what parts it from the numbers of the lot."""
    if not is_prime(prime):
        raise NoPrime()
    if not is_lot(prime, lot):
        raise NoNumbers()
    if not are_places(prime, places, lot):
        raise NoPlaces()
    return tuple([product_at(prime, lot, place) for place in places])


def roots(prime, polynomial, lot):
    """The numbers of the lot at which a polynomial is nought."""
    if not is_prime(prime):
        raise NoPrime()
    if not is_polynomial(prime, polynomial):
        raise NoPolynomial()
    if not is_lot(prime, lot):
        raise NoNumbers()
    return tuple([number for number in lot if value_at(prime, polynomial, number) == 0])


def difference(prime, own, many, places, told, most):
    """The polynomials that part own from a lot of so many numbers with the values told, or None."""
    if not is_prime(prime):
        raise NoPrime()
    if not is_lot(prime, own):
        raise NoNumbers()
    if not is_count(many) or many > LONGEST_LOT:
        raise NoNumber()
    if not are_places(prime, places, own):
        raise NoPlaces()
    if not are_values(prime, told, len(places)):
        raise NoValues()
    if not is_count(most) or most > len(places):
        raise NoNumber()
    return parted(prime, own, many, places, told, most)


def number_of(name, stamp):
    """The number of a name with a stamp."""
    if not is_name(name):
        raise NoName()
    if not is_stamp(stamp):
        raise NoStamp()
    total = 0
    for sign in name:
        total = total * 27 + ord(sign) - 96
    count, client, number = stamp
    return 10 ** 13 * total + 10 ** 7 * count + 10 ** 6 * client + number


def numbers_of(files):
    """The numbers of files, in their order."""
    return tuple([number_of(file[0], file[1]) for file in files])


def first_places(many):
    """The places at which server and clients tell the values of their files' numbers."""
    return tuple([P - k for k in range(1, many + 1)])
