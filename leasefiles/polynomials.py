"""Polynomials modulo a prime: tuples of coefficients, the constant one first, none of them leading that is nought."""


def value_at(prime, polynomial, place):
    """What a polynomial is at a place."""
    total = 0
    for coefficient in reversed(polynomial):
        total = (total * place + coefficient) % prime
    return total


def product_at(prime, numbers, place):
    """The product of what parts a place from each number."""
    total = 1
    for number in numbers:
        total = total * (place - number) % prime
    return total


def inverse(prime, number):
    """The number that makes 1 with one that is not nought."""
    rest, further = number % prime, prime
    factor, other = 1, 0
    # Throughout, factor times the number is rest, and other times it is further.
    while further != 0:
        times = rest // further
        rest, further = further, rest - times * further
        factor, other = other, factor - times * other
    return factor % prime


def trimmed(coefficients):
    """A polynomial of coefficients of which the last ones may be nought."""
    many = len(coefficients)
    while many > 0 and coefficients[many - 1] == 0:
        many -= 1
    return tuple(coefficients[:many])


def monic(prime, polynomial):
    """A polynomial that is not nought, divided by its leading coefficient."""
    factor = inverse(prime, polynomial[-1])
    return tuple([coefficient * factor % prime for coefficient in polynomial])


def divided(prime, polynomial, divisor):
    """The quotient of a polynomial by one whose leading coefficient is 1, and what is left."""
    left = list(polynomial)
    quotient = [0] * max(0, len(polynomial) - len(divisor) + 1)
    for shift in range(len(quotient) - 1, -1, -1):
        factor = left[shift + len(divisor) - 1]
        quotient[shift] = factor
        for k, coefficient in enumerate(divisor):
            left[shift + k] = (left[shift + k] - factor * coefficient) % prime
    return trimmed(quotient), trimmed(left)


def common_factor(prime, first, second):
    """The greatest common factor of two polynomials that are not nought, with the leading coefficient 1."""
    while len(second) > 0:
        second = monic(prime, second)
        first, second = second, divided(prime, first, second)[1]
    return monic(prime, first)


def powers(prime, place, many):
    """The powers of a place from the one of 0 on, so many."""
    found = []
    power = 1
    for _ in range(many):
        found.append(power)
        power = power * place % prime
    return found
