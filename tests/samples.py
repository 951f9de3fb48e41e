"""Values of all kinds that may be handed in where something is judged."""

from leasefiles.clients import Client
from leasefiles.disks import Disk
from leasefiles.errors import BadText, LeaseError, NoItem, NoText
from leasefiles.shop import Shop
from leasefiles.world import World

PLAIN_SIGNS = "".join([chr(code) for code in range(32, 127)])


def nested(kind, deep):
    """So many lists, tuples or dicts within each other."""
    value = kind()
    for _ in range(deep - 1):
        value = {"in": value} if kind is dict else kind([value])
    return value


def mixed(deep):
    """Lists, tuples and dicts within each other, taking turns."""
    value = 7
    for level in range(deep):
        value = ([value], (value,), {"in": value})[level % 3]
    return value


def package_objects():
    return [LeaseError(), NoText(), BadText(3), NoItem([1, 2]), Disk(), Client(1, (0, 0, ())), World(2), Shop(1)]


def not_strings():
    """Values of all kinds but strings, made anew."""
    return [
        0, 1, -1, 5, 10 ** 29, -(10 ** 29), True, False, None,
        [], ["a"], ["put", "a"], [0, 0, 0], [1, [2, [3]]],
        (), ("a",), (("put", "a"),), (True, None), (0, 0), (0, 0, 0, 0), ([], {}), ({},), (["remove"],),
        {}, {"a": 1}, {(1, "b"): [2]}, {"put": "a"},
        nested(list, 30), nested(tuple, 30), nested(dict, 30), mixed(30),
    ] + package_objects() + [(thing,) for thing in package_objects()]


def strings():
    """Strings of all kinds that may be handed in."""
    return ["", " ", "a", "~", "'", "\n", "a\nb", "put", "remove", "(0,0,0)", PLAIN_SIGNS, "x" * 20000, "\n" * 20000]


def all_values():
    return not_strings() + strings()
