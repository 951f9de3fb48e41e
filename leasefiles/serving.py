"""What the server does with each letter."""

from leasefiles.basics import FIRST_STAMP, edited, is_text_edit, names_in
from leasefiles.errors import NoLetter, NoTable, Unfit
from leasefiles.letters import SERVER, is_letter
from leasefiles.polynomials import product_at, value_at
from leasefiles.rows import row_of
from leasefiles.tables import file_at, is_in_force, is_table
from leasefiles.values import P, first_places, numbers_of


def answer(letter, word, parts):
    """The answer to a letter, with its talk."""
    return (letter[1], SERVER, letter[2], word, parts)


def answered(letter, word, parts):
    """What is done with a letter that is just answered."""
    return (), (answer(letter, word, parts),)


def others_at(table, name, client):
    """The leases in force that clients but this one have at a name, ascending by clients."""
    return [lease for lease in table[2]
            if lease[0] == name and lease[1] != client and is_in_force(table[0], lease)]


def writers_of(leases):
    """Those of some leases that are for writing."""
    return [lease for lease in leases if lease[2] == "write"]


def busy(letter, name, hindering):
    """What is done with a letter that these leases hinder: their clients are to give them back."""
    recalls = [(lease[1], SERVER, (0, 0), "recall", (name,)) for lease in hindering]
    return (), (answer(letter, "busy", (name,)), *recalls)


def serve_look(table, letter):
    """Tells a file, unless another client may have written it without asking."""
    name = letter[4][0]
    hindering = writers_of(others_at(table, name, letter[1]))
    if len(hindering) > 0:
        return busy(letter, name, hindering)
    return answered(letter, "told", (name,) + file_at(table, name))


def serve_names(table, letter):
    """Tells the names that have a text."""
    return answered(letter, "list", (tuple([name for name, _, text in table[1] if text is not None]),))


def serve_asides(table, letter):
    """Tells the asides of a name."""
    name = letter[4][0]
    asides = [aside[:2] + aside[3:] for aside in table[4] if aside[2] == name]
    return answered(letter, "kept", (name, tuple(asides)))


def serve_lease(table, letter):
    """Grants a lease, unless others hinder it or it was granted by a later letter already."""
    client, talk = letter[1], letter[2]
    name, kind = letter[4]
    elder = row_of(table[2], (name, client))
    if elder is not None and elder[3] > talk:
        return (), ()
    hindering = others_at(table, name, client)
    if kind == "read":
        hindering = writers_of(hindering)
    if len(hindering) > 0:
        return busy(letter, name, hindering)
    granted = answer(letter, "granted", (name, kind) + file_at(table, name))
    return (("grant", name, client, kind, talk),), (granted,)


def serve_give(table, letter):
    """Takes a lease back, unless it was granted by a later letter."""
    client, talk = letter[1], letter[2]
    name = letter[4][0]
    lease = row_of(table[2], (name, client))
    deeds = ()
    if lease is not None and lease[3] < talk:
        deeds = (("give", name, client, talk),)
    return deeds, (answer(letter, "given", (name,)),)


def serve_sums(table, letter):
    """Tells how many files there are, and few values of their numbers."""
    many = letter[4][0]
    numbers = numbers_of(table[1])
    sums = tuple([product_at(P, numbers, place) for place in first_places(many)])
    return answered(letter, "values", (many, len(numbers), sums))


def serve_roots(table, letter):
    """Tells the files whose numbers are noughts of a polynomial; each number is one of the empty one."""
    polynomial = letter[4][0]
    found = [file for file, number in zip(table[1], numbers_of(table[1])) if value_at(P, polynomial, number) == 0]
    return answered(letter, "files", (tuple(found),))


def serve_do(table, letter):
    """Does a write that is the next one of its client; tells again what became of the last one."""
    client, (number, name, base, edit) = letter[1], letter[4]
    last = row_of(table[3], (client,))
    done = 0 if last is None else last[1]
    if number == done:
        return answered(letter, "done", last[1:])
    if number != done + 1:
        return (), ()
    if base is not None and base != file_at(table, name)[0]:
        return finished(letter, ("aside", client, number, name, base, edit), "aside", FIRST_STAMP)
    for hindered in names_in(name, edit):
        hindering = others_at(table, hindered, client)
        if len(hindering) > 0:
            return busy(letter, hindered, hindering)
    return done_write(table, letter)


def finished(letter, deed, word, stamp):
    """What is done with a letter whose write comes to an end by a deed."""
    return (deed,), (answer(letter, "done", (letter[4][0], word, stamp)),)


def unfit(letter):
    """What is done with a letter whose write can't be done."""
    return finished(letter, ("unfit", letter[1], letter[4][0]), "unfit", FIRST_STAMP)


def next_stamp(letter, stamp):
    """The stamp that a letter's write gives a file that has this one."""
    return (stamp[0] + 1, letter[1], letter[4][0])


def done_write(table, letter):
    """Does a write that nothing hinders, if it can be done."""
    edit = letter[4][3]
    if is_text_edit(edit):
        return done_edit(table, letter, edit, ("apply", ()))
    if edit[0] == "take":
        return done_take(table, letter)
    aside = row_of(table[4], edit[1:])
    if aside is None or aside[2] != letter[4][1]:
        return unfit(letter)
    if edit[0] == "drop":
        return finished(letter, ("drop", letter[1], letter[4][0]) + edit[1:], "dropped", FIRST_STAMP)
    if not is_text_edit(aside[4]):
        return unfit(letter)
    return done_edit(table, letter, aside[4], ("adopt", edit[1:]))


def done_edit(table, letter, edit, way):
    """Does a put, splice or remove, by a deed of the way's word with the way's further parts."""
    number, name = letter[4][:2]
    stamp, text = file_at(table, name)
    try:
        made = edited(text, edit)
    except Unfit:
        return unfit(letter)
    newer = next_stamp(letter, stamp)
    return finished(letter, (way[0], letter[1], number, name, newer, made) + way[1], "applied", newer)


def done_take(table, letter):
    """Does a take of another name's text."""
    number, name, _, edit = letter[4]
    other = edit[1]
    beside, text = file_at(table, other)
    if other == name or text is None:
        return unfit(letter)
    newer = next_stamp(letter, file_at(table, name)[0])
    deed = ("take", letter[1], number, name, newer, text, other, next_stamp(letter, beside))
    return finished(letter, deed, "applied", newer)


SERVICES = {
    "look": serve_look,
    "names": serve_names,
    "asides": serve_asides,
    "lease": serve_lease,
    "give": serve_give,
    "do": serve_do,
    "sums": serve_sums,
    "roots": serve_roots,
}


def served(table, letter):
    """What the server does with a letter, for what surely is a table and a letter to it."""
    service = SERVICES[letter[3]]
    return service(table, letter)


def serve(table, letter):
    """What the server does with a letter: its deeds, and the letters that it writes."""
    if not is_table(table):
        raise NoTable()
    if not is_letter(letter) or letter[0] != SERVER:
        raise NoLetter()
    return served(table, letter)
