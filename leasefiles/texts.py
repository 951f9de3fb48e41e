"""Things as texts, and texts that are sealed by a check."""

from leasefiles.basics import has_plain_signs, is_whole
from leasefiles.errors import BadText, NoText, NoThing

MOST_DIGITS = 30
DEEPEST = 30
TOO_GREAT = 10 ** 30
CHECK_PRIME = 99991


def packed(thing):
    """The text of a thing."""
    return packed_within(thing, 0)


def packed_within(thing, around):
    """The text of a thing that has so many tuples around it."""
    if thing is None:
        return "."
    if is_whole(thing) and abs(thing) < TOO_GREAT:
        return str(thing)
    if isinstance(thing, str) and has_plain_signs(thing):
        return quoted(thing)
    if isinstance(thing, tuple) and around < DEEPEST:
        return "(" + ",".join([packed_within(item, around + 1) for item in thing]) + ")"
    raise NoThing()


def is_thing(thing, around):
    """Whether thing is a thing that may stand within so many tuples."""
    try:
        packed_within(thing, around)
    except NoThing:
        return False
    return True


def quoted(text):
    """The text of a string."""
    # The tildes go first: those that stand ahead of quotes are not to be doubled.
    return "'" + text.replace("~", "~~").replace("'", "~'") + "'"


def unpacked(text):
    """The thing that a text is the text of."""
    if not isinstance(text, str):
        raise BadText(-1)
    thing, place = thing_at(text, 0, 0)
    if place < len(text):
        raise BadText(place)
    return thing


def sign_at(text, place):
    """The sign at a place, or the empty string behind the end."""
    return text[place:place + 1]


def thing_at(text, place, around):
    """The thing whose text begins at a place, with so many tuples around it, and the place behind it."""
    sign = sign_at(text, place)
    if sign == ".":
        return None, place + 1
    if sign == "'":
        return string_at(text, place + 1)
    if sign == "(" and around < DEEPEST:
        return tuple_at(text, place + 1, around + 1)
    return integer_at(text, place)


def integer_at(text, place):
    """The integer whose text begins at a place, and the place behind it."""
    below = sign_at(text, place) == "-"
    start = place + 1 if below else place
    # There is no -0, so 0 can't go on behind a minus.
    least = "1" if below else "0"
    if not least <= sign_at(text, start) <= "9":
        raise BadText(start)
    end = start + 1
    # Behind a leading 0 no digit can go on: whoever called finds it and tells its place.
    if text[start] != "0":
        while end - start < MOST_DIGITS and "0" <= sign_at(text, end) <= "9":
            end += 1
    return int(text[place:end]), end


def string_at(text, place):
    """The string whose signs begin at a place, its quote being behind already, and the place behind it."""
    signs = []
    while sign_at(text, place) != "'":
        sign = sign_at(text, place)
        if sign == "~":
            place += 1
            sign = sign_at(text, place)
            if sign != "'" and sign != "~":
                raise BadText(place)
        elif not " " <= sign <= "~":
            raise BadText(place)
        signs.append(sign)
        place += 1
    return "".join(signs), place + 1


def tuple_at(text, place, around):
    """The tuple whose items begin at a place, with so many tuples around them, and the place behind it."""
    if sign_at(text, place) == ")":
        return (), place + 1
    items = []
    while True:
        item, place = thing_at(text, place, around)
        items.append(item)
        sign = sign_at(text, place)
        if sign == ")":
            return tuple(items), place + 1
        if sign != ",":
            raise BadText(place)
        place += 1


def is_lined(thing):
    """Whether thing is a text of any length of signs from the blank to ~ and line feeds."""
    return isinstance(thing, str) and has_plain_signs(thing.replace("\n", ""))


def check(text):
    """The check of a text of signs from the blank to ~ and line feeds."""
    if not is_lined(text):
        raise NoText()
    return check_behind(0, 0, text)


def check_behind(total, many, text):
    """The check of so many signs, which have the check total, and of this text behind them."""
    for place, sign in enumerate(text, start=many + 1):
        if sign != "\n":
            # The blank, whose code is 32, has the number 1.
            total += place * (ord(sign) - 31)
    return total % CHECK_PRIME


def sealed(thing):
    """The text of a thing, and its check behind it."""
    text = packed(thing)
    return text + "#" + str(check(text))


def unsealed(text):
    """The tuple (thing,) if the text is sealed(thing), else ()."""
    if not isinstance(text, str):
        return ()
    # The last # is the seal's: digits have none, but strings within the thing may have some.
    head = text.rpartition("#")[0]
    try:
        thing = unpacked(head)
    except BadText:
        return ()
    return (thing,) if sealed(thing) == text else ()
