"""The server's table, and what it is behind each deed."""

from leasefiles.basics import FIRST_STAMP, has_form, is_count, is_name, is_worded
from leasefiles.errors import NoDeed, NoName, NoTable
from leasefiles.rows import is_rows, row_of, with_row, without_row

LASTING = 8

FILE = ("name", "stamp", "text")
LEASE = ("name", "client", "kind", "talk", "count")
DONE = ("client", "number", "word", "stamp")
ASIDE = ("client", "number", "name", "base", "edit")

DEED_FORMS = {
    "grant": ("name", "client", "kind", "talk"),
    "give": ("name", "client", "talk"),
    "apply": ("client", "number", "name", "stamp", "text"),
    "take": ("client", "number", "name", "stamp", "text", "name", "stamp"),
    "adopt": ("client", "number", "name", "stamp", "text", "client", "number"),
    "drop": ("client", "number", "client", "number"),
    "aside": ("client", "number", "name", "base", "edit"),
    "unfit": ("client", "number"),
    "tick": (),
    "rise": (),
}


def bare_table():
    """The table of a server that has done nothing yet."""
    return (0, (), (), (), ())


def is_files(thing):
    """Whether thing is an ascending tuple of files, one for a name."""
    return is_rows(thing, FILE, 1)


def is_table(thing):
    """Whether thing has the form of a table."""
    if not isinstance(thing, tuple) or len(thing) != 5:
        return False
    clock, files, leases, done, asides = thing
    if not is_count(clock) or not is_files(files) or not is_rows(leases, LEASE, 2):
        return False
    return is_rows(done, DONE, 1) and is_rows(asides, ASIDE, 2)


def is_deed(thing):
    """Whether thing has the form of a deed of a table."""
    if not is_worded(thing):
        return False
    word, parts = thing[0], thing[1:]
    if word == "stand":
        return len(parts) == 1 and is_table(parts[0])
    return word in DEED_FORMS and has_form(parts, DEED_FORMS[word])


def is_in_force(clock, lease):
    """Whether a lease is in force at this clock."""
    return clock < lease[4]


def file_at(table, name):
    """The pair (stamp, text) of a name in what surely is a table."""
    file = row_of(table[1], (name,))
    return (FIRST_STAMP, None) if file is None else file[1:]


def file_of(table, name):
    """The pair (stamp, text) of a name; the first stamp and None if it has no file."""
    if not is_table(table):
        raise NoTable()
    if not is_name(name):
        raise NoName()
    return file_at(table, name)


def done_number(table, client):
    """The greatest number of a client's writes that is done, 0 if none is, in what surely is a table."""
    last = row_of(table[3], (client,))
    return 0 if last is None else last[1]


def behind_grant(table, deed):
    """The table behind a grant."""
    clock, files, leases, done, asides = table
    _, name, client, kind, talk = deed
    elder = row_of(leases, (name, client))
    if elder is not None:
        talk = max(talk, elder[3])
    lease = (name, client, kind, talk, clock + LASTING)
    return (clock, files, with_row(leases, lease, 2), done, asides)


def behind_give(table, deed):
    """The table behind a give: a lease that was granted later stays."""
    clock, files, leases, done, asides = table
    _, name, client, talk = deed
    lease = row_of(leases, (name, client))
    if lease is not None and lease[3] < talk:
        leases = without_row(leases, (name, client))
    return (clock, files, leases, done, asides)


def with_done(table, client, number, word, stamp):
    """The table with this as what is done of a client."""
    clock, files, leases, done, asides = table
    return (clock, files, leases, with_row(done, (client, number, word, stamp), 1), asides)


def with_file(table, name, stamp, text):
    """The table with this stamp and text for a name."""
    clock, files, leases, done, asides = table
    return (clock, with_row(files, (name, stamp, text), 1), leases, done, asides)


def without_aside(table, client, number):
    """The table without an aside."""
    clock, files, leases, done, asides = table
    return (clock, files, leases, done, without_row(asides, (client, number)))


def behind_apply(table, deed):
    """The table behind an apply, or the same part of a take or an adopt."""
    client, number, name, stamp, text = deed[1:6]
    return with_done(with_file(table, name, stamp, text), client, number, "applied", stamp)


def behind_take(table, deed):
    """The table behind a take."""
    other, beside = deed[6:]
    return with_file(behind_apply(table, deed), other, beside, None)


def behind_adopt(table, deed):
    """The table behind an adopt."""
    by, its = deed[6:]
    return without_aside(behind_apply(table, deed), by, its)


def behind_drop(table, deed):
    """The table behind a drop."""
    _, client, number, by, its = deed
    return with_done(without_aside(table, by, its), client, number, "dropped", FIRST_STAMP)


def behind_aside(table, deed):
    """The table behind an aside."""
    clock, files, leases, done, asides = with_done(table, deed[1], deed[2], "aside", FIRST_STAMP)
    return (clock, files, leases, done, with_row(asides, deed[1:], 2))


def behind_unfit(table, deed):
    """The table behind an unfit."""
    return with_done(table, deed[1], deed[2], "unfit", FIRST_STAMP)


def behind_tick(table, _):
    """The table behind a tick."""
    clock, files, leases, done, asides = table
    clock += 1
    return (clock, files, tuple([lease for lease in leases if is_in_force(clock, lease)]), done, asides)


def behind_rise(table, _):
    """The table behind a rise: whatever the clock missed, no lease ends too early by it."""
    clock, files, leases, done, asides = table
    return (clock, files, tuple([lease[:4] + (clock + LASTING,) for lease in leases]), done, asides)


def behind_stand(_, deed):
    """The table behind a stand."""
    return deed[1]


BEHIND = {
    "grant": behind_grant,
    "give": behind_give,
    "apply": behind_apply,
    "take": behind_take,
    "adopt": behind_adopt,
    "drop": behind_drop,
    "aside": behind_aside,
    "unfit": behind_unfit,
    "tick": behind_tick,
    "rise": behind_rise,
    "stand": behind_stand,
}


def table_behind(table, deed):
    """The table behind a deed, for what surely is a table and a deed."""
    change = BEHIND[deed[0]]
    return change(table, deed)


def behind(table, deed):
    """The table behind a deed."""
    if not is_table(table):
        raise NoTable()
    if not is_deed(deed):
        raise NoDeed()
    return table_behind(table, deed)
