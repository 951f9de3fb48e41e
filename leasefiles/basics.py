"""Names, texts, edits and stamps, and what an edit makes of a text."""

from leasefiles.errors import NoEdit, NoText, Unfit

LONGEST_NAME = 8
LONGEST_TEXT = 96
LAST_CLIENT = 9
FIRST_STAMP = (0, 0, 0)


def is_whole(thing):
    """Whether thing is an integer; Python counts flags as integers, the package does not."""
    return isinstance(thing, int) and not isinstance(thing, bool)


def is_whole_from(thing, least):
    """Whether thing is an integer that is not below least."""
    return is_whole(thing) and thing >= least


def is_client(thing):
    """Whether thing is the number of a client."""
    return is_whole_from(thing, 1) and thing <= LAST_CLIENT


def has_plain_signs(text):
    """Whether each sign of a string is one from the blank to ~."""
    # The printable signs of ASCII are just these.
    return text.isascii() and text.isprintable()


def is_name(thing):
    """Whether thing is the name of a file."""
    if not isinstance(thing, str) or not 1 <= len(thing) <= LONGEST_NAME:
        return False
    return all(["a" <= sign <= "z" for sign in thing])


def is_text(thing):
    """Whether thing is a text that a file may have."""
    return isinstance(thing, str) and len(thing) <= LONGEST_TEXT and has_plain_signs(thing)


def is_stamp(thing):
    """Whether thing is a stamp (count, client, number), or the first one."""
    if not isinstance(thing, tuple) or len(thing) != 3:
        return False
    count, client, number = thing
    if is_whole_from(count, 1) and is_client(client) and is_whole_from(number, 1):
        return True
    # False == 0, so the items are looked at before the triple is compared.
    return is_whole(count) and is_whole(client) and is_whole(number) and thing == FIRST_STAMP


def is_worded(thing):
    """Whether thing is a tuple that begins with a word, as edits do."""
    return isinstance(thing, tuple) and len(thing) > 0 and isinstance(thing[0], str)


def is_splice(at, gone, text):
    """Whether these are the parts of a splice."""
    return is_whole_from(at, 0) and is_whole_from(gone, 0) and is_text(text)


def is_text_edit(thing):
    """Whether thing is one of the edits that ask for nothing but the text: put, splice, remove."""
    if not is_worded(thing):
        return False
    word, parts = thing[0], thing[1:]
    if word == "put":
        return len(parts) == 1 and is_text(parts[0])
    if word == "splice":
        return len(parts) == 3 and is_splice(parts[0], parts[1], parts[2])
    return word == "remove" and len(parts) == 0


def is_edit(thing):
    """Whether thing is an edit."""
    if is_text_edit(thing):
        return True
    if not is_worded(thing):
        return False
    word, parts = thing[0], thing[1:]
    if word == "take":
        return len(parts) == 1 and is_name(parts[0])
    if word == "adopt" or word == "drop":
        return len(parts) == 2 and is_client(parts[0]) and is_whole_from(parts[1], 1)
    return False


def edited(text, edit):
    """The text, or None, that a put, splice or remove makes of a text or None."""
    if text is not None and not is_text(text):
        raise NoText()
    if not is_text_edit(edit):
        raise NoEdit()
    if edit[0] == "put":
        return edit[1]
    if text is None:
        raise Unfit()
    if edit[0] == "remove":
        return None
    return spliced(text, edit[1], edit[2], edit[3])


def spliced(text, at, gone, other):
    """The text with gone signs from place at on exchanged for the other text."""
    if len(text) < at + gone:
        raise Unfit()
    made = text[:at] + other + text[at + gone:]
    if len(made) > LONGEST_TEXT:
        raise Unfit()
    return made
