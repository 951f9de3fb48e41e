"""The letters between the server and its clients."""

from leasefiles.basics import has_form, is_client, is_count, is_name, is_talk, is_whole
from leasefiles.rows import is_ascending
from leasefiles.tables import is_files

SERVER = "server"
MOST_PLACES = 64
MOST_INTEGERS = 65

ASKED_FORMS = {
    "look": ("name",),
    "names": (),
    "asides": ("name",),
    "lease": ("name", "kind"),
    "give": ("name",),
    "do": ("number", "name", "base", "edit"),
}
TOLD_FORMS = {
    "told": ("name", "stamp", "text"),
    "granted": ("name", "kind", "stamp", "text"),
    "given": ("name",),
    "busy": ("name",),
    "done": ("number", "word", "stamp"),
    "recall": ("name",),
}
NAMED_ASIDE = ("client", "number", "base", "edit")


def is_many(thing):
    """Whether thing is a number of places."""
    return is_whole(thing) and 1 <= thing <= MOST_PLACES


def is_integers(thing):
    """Whether thing is a tuple of integers as polynomials and sums are."""
    return isinstance(thing, tuple) and len(thing) <= MOST_INTEGERS and all([is_count(item) for item in thing])


def is_names(thing):
    """Whether thing is an ascending tuple of names."""
    return isinstance(thing, tuple) and all([is_name(item) for item in thing]) and is_ascending(thing)


def is_aside_below(first, second):
    """Whether an aside of a name stands ahead of another one in their order."""
    # Python has no order of None and a stamp, so two asides that part in this alone have none either.
    if first[:2] == second[:2] and (first[2] is None) != (second[2] is None):
        return False
    return first < second


def is_asides(thing):
    """Whether thing is an ascending tuple of asides of a name."""
    if not isinstance(thing, tuple) or not all([has_form(item, NAMED_ASIDE) for item in thing]):
        return False
    return all([is_aside_below(first, second) for first, second in zip(thing, thing[1:])])


def is_asked(word, parts):
    """Whether these are the word and the parts of a letter to the server."""
    if word == "sums":
        return len(parts) == 1 and is_many(parts[0])
    if word == "roots":
        return len(parts) == 1 and is_integers(parts[0])
    return word in ASKED_FORMS and has_form(parts, ASKED_FORMS[word])


def is_told(word, parts):
    """Whether these are the word and the parts of a letter to a client."""
    if word == "list":
        return len(parts) == 1 and is_names(parts[0])
    if word == "kept":
        return len(parts) == 2 and is_name(parts[0]) and is_asides(parts[1])
    if word == "values":
        return len(parts) == 3 and is_many(parts[0]) and is_count(parts[1]) and is_integers(parts[2])
    if word == "files":
        return len(parts) == 1 and is_files(parts[0])
    return word in TOLD_FORMS and has_form(parts, TOLD_FORMS[word])


def is_letter(thing):
    """Whether thing is a letter."""
    if not isinstance(thing, tuple) or len(thing) != 5:
        return False
    to, by, talk, word, parts = thing
    if not is_talk(talk) or not isinstance(word, str) or not isinstance(parts, tuple):
        return False
    if to == SERVER:
        return is_client(by) and is_asked(word, parts)
    return is_client(to) and by == SERVER and is_told(word, parts)
