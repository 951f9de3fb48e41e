"""Names, texts, edits, stamps and other small parts of what is judged, and what an edit makes of a text."""

from leasefiles.errors import NoEdit, NoText, Unfit

LONGEST_NAME = 8
LONGEST_TEXT = 96
LAST_CLIENT = 9
FIRST_STAMP = (0, 0, 0)
KINDS = ("read", "write")
DONE_WORDS = ("applied", "aside", "unfit", "dropped")


def is_whole(thing):
    """Whether thing is an integer; Python counts flags as integers, the package does not."""
    return isinstance(thing, int) and not isinstance(thing, bool)


def is_whole_from(thing, least):
    """Whether thing is an integer that is not below least."""
    return is_whole(thing) and thing >= least


def is_count(thing):
    """Whether thing is an integer from 0 on."""
    return is_whole_from(thing, 0)


def is_number(thing):
    """Whether thing is an integer from 1 on, as the numbers of writes are."""
    return is_whole_from(thing, 1)


def is_client(thing):
    """Whether thing is the number of a client."""
    return is_whole_from(thing, 1) and thing <= LAST_CLIENT


def has_plain_signs(text):
    """Whether each sign of a string is one from the blank to ~."""
    # The printable signs of ASCII are just these.
    return text.isascii() and text.isprintable()


def is_name(thing):
    """Whether thing is the name of a file."""
    if not isinstance(thing, str) or not 1 <= len(thing) <= LONGEST_NAME:
        return False
    return all(["a" <= sign <= "z" for sign in thing])


def is_text(thing):
    """Whether thing is a text that a file may have."""
    return isinstance(thing, str) and len(thing) <= LONGEST_TEXT and has_plain_signs(thing)


def is_stamp(thing):
    """Whether thing is a stamp (count, client, number), or the first one."""
    if not isinstance(thing, tuple) or len(thing) != 3:
        return False
    count, client, number = thing
    if is_whole_from(count, 1) and is_client(client) and is_whole_from(number, 1):
        return True
    # False == 0, so the items are looked at before the triple is compared.
    return is_whole(count) and is_whole(client) and is_whole(number) and thing == FIRST_STAMP


def is_base(thing):
    """Whether thing is what an edit may be based on: a stamp, or None."""
    return thing is None or is_stamp(thing)


def is_text_or_none(thing):
    """Whether thing is what a file has, or None where there is none."""
    return thing is None or is_text(thing)


def is_kind(thing):
    """Whether thing is a kind of leases."""
    return isinstance(thing, str) and thing in KINDS


def is_done_word(thing):
    """Whether thing is what a server tells of a write that is done."""
    return isinstance(thing, str) and thing in DONE_WORDS


def is_talk(thing):
    """Whether thing is a talk, by which letters and their answers are known."""
    return isinstance(thing, tuple) and len(thing) == 2 and is_count(thing[0]) and is_count(thing[1])


def is_worded(thing):
    """Whether thing is a tuple that begins with a word, as edits do."""
    return isinstance(thing, tuple) and len(thing) > 0 and isinstance(thing[0], str)


def is_splice(at, gone, text):
    """Whether these are the parts of a splice."""
    return is_whole_from(at, 0) and is_whole_from(gone, 0) and is_text(text)


def is_text_edit(thing):
    """Whether thing is one of the edits that ask for nothing but the text: put, splice, remove."""
    if not is_worded(thing):
        return False
    word, parts = thing[0], thing[1:]
    if word == "put":
        return len(parts) == 1 and is_text(parts[0])
    if word == "splice":
        return len(parts) == 3 and is_splice(parts[0], parts[1], parts[2])
    return word == "remove" and len(parts) == 0


def is_edit(thing):
    """Whether thing is an edit."""
    if is_text_edit(thing):
        return True
    if not is_worded(thing):
        return False
    word, parts = thing[0], thing[1:]
    if word == "take":
        return len(parts) == 1 and is_name(parts[0])
    if word == "adopt" or word == "drop":
        return len(parts) == 2 and is_client(parts[0]) and is_whole_from(parts[1], 1)
    return False


def names_in(name, edit):
    """The names that a write of an edit at a name names, that name first."""
    return (name, edit[1]) if edit[0] == "take" else (name,)


def edited(text, edit):
    """The text, or None, that a put, splice or remove makes of a text or None."""
    if text is not None and not is_text(text):
        raise NoText()
    if not is_text_edit(edit):
        raise NoEdit()
    if edit[0] == "put":
        return edit[1]
    if text is None:
        raise Unfit()
    if edit[0] == "remove":
        return None
    return spliced(text, edit[1], edit[2], edit[3])


def spliced(text, at, gone, other):
    """The text with gone signs from place at on exchanged for the other text."""
    if len(text) < at + gone:
        raise Unfit()
    made = text[:at] + other + text[at + gone:]
    if len(made) > LONGEST_TEXT:
        raise Unfit()
    return made


JUDGES = {
    "count": is_count,
    "number": is_number,
    "client": is_client,
    "name": is_name,
    "text": is_text_or_none,
    "stamp": is_stamp,
    "base": is_base,
    "edit": is_edit,
    "kind": is_kind,
    "talk": is_talk,
    "word": is_done_word,
}


def is_part(thing, part):
    """Whether thing is what the word for a part asks for."""
    judge = JUDGES[part]
    return judge(thing)


def has_form(thing, form):
    """Whether thing is a tuple of just the parts for which a form has the words."""
    if not isinstance(thing, tuple) or len(thing) != len(form):
        return False
    return all([is_part(item, part) for item, part in zip(thing, form)])
