"""Right and wrong values for each part of rows, deeds and letters, and what is made of them."""

LONG = 10 ** 12 - 1

RIGHT = {
    "count": [0, 1, 2, LONG],
    "number": [1, 2, LONG],
    "client": [1, 2, 9],
    "name": ["a", "z", "notes", "abcdefgh"],
    "text": [None, "", "a", " ~", "x" * 96],
    "stamp": [(0, 0, 0), (1, 1, 1), (2, 9, LONG)],
    "base": [None, (0, 0, 0), (1, 1, 1), (LONG, 9, 7)],
    "edit": [("put", ""), ("put", "x" * 96), ("splice", 0, 0, ""), ("remove",), ("take", "b"), ("adopt", 1, 1),
             ("drop", 9, 2)],
    "kind": ["read", "write"],
    "talk": [(0, 0), (0, 1), (1, 0), (LONG, LONG)],
    "word": ["applied", "aside", "unfit", "dropped"],
}
WRONG = {
    "count": [-1, True, False, None, "0", (0,), [0], {}],
    "number": [0, -1, True, None, "1", (1,), [1]],
    "client": [0, 10, -1, True, None, "1", (1,), "server"],
    "name": ["", "abcdefghi", "A", "a1", "a b", None, 1, True, ("a",), ["a"], {"a": 1}],
    "text": ["x" * 97, "a\n", 0, False, ("a",), ["a"]],
    "stamp": [None, (0, 0, 1), (0, 1, 0), (1, 0, 0), (0, 1, 1), (1, 10, 1), (1, 1, 0), (True, 1, 1), (False, 0, 0),
              (1, 1), (1, 1, 1, 1), [1, 1, 1], "000", 0],
    "base": [(0, 0, 1), (1, 0, 1), (1, 1, True), (False, 0, 0), (1, 1), [0, 0, 0], 0, False, "None"],
    "edit": [None, (), ("put",), ("put", None), ("put", "x" * 97), ["put", "a"], ("splice", 0, 0), ("remove", ""),
             ("splice", -1, 0, ""), ("take", ""), ("adopt", 0, 1), ("drop", 1, 0), ("drop", 1, True), "remove"],
    "kind": ["", "Read", "reads", None, True, ("read",), ["write"], "lease"],
    "talk": [(0, -1), (-1, 0), (0, True), (False, 0), (0,), (0, 0, 0), (), [0, 0], None, 0, "00", (None, 0)],
    "word": ["", "pending", "Applied", "adopted", "struck", None, ("aside",), True],
}


def varied(form, choices):
    """The tuples of the first right value of each part of a form, with one part exchanged for each choice."""
    plain = tuple([RIGHT[part][0] for part in form])
    return [plain[:k] + (value,) + plain[k + 1:] for k, part in enumerate(form) for value in choices[part]]


def right(form):
    """Tuples that have a form."""
    return [tuple([RIGHT[part][0] for part in form])] + varied(form, RIGHT)


def wrong(form):
    """Things that do not have a form: a part wrong, one more, one less, and a list."""
    plain = tuple([RIGHT[part][0] for part in form])
    many = [plain + (None,), plain + (plain[0] if plain else 0,), list(plain), None, "", 0, True, {}]
    return varied(form, WRONG) + many + ([plain[:-1], plain[1:]] if plain else [])
