"""A client's sheet of what it wrote, and what it is behind each deed."""

from leasefiles.basics import has_form, is_count, is_worded
from leasefiles.errors import NoNote, NoSheet

WRITE = ("number", "name", "base", "edit")

NOTE_FORMS = {
    "boot": (),
    "write": ("name", "base", "edit"),
    "settled": ("number",),
}


def bare_sheet():
    """The sheet of a client that has never risen."""
    return (0, 0, ())


def is_sheet(thing):
    """Whether thing has the form of a sheet."""
    if not isinstance(thing, tuple) or len(thing) != 3:
        return False
    boot, number, pending = thing
    if not is_count(boot) or not is_count(number) or not isinstance(pending, tuple):
        return False
    if not all([has_form(write, WRITE) for write in pending]):
        return False
    return [write[0] for write in pending] == list(range(number - len(pending) + 1, number + 1))


def is_note(thing):
    """Whether thing has the form of a deed of a sheet."""
    if not is_worded(thing):
        return False
    word, parts = thing[0], thing[1:]
    if word == "stand":
        return len(parts) == 1 and is_sheet(parts[0])
    return word in NOTE_FORMS and has_form(parts, NOTE_FORMS[word])


def sheet_behind(sheet, deed):
    """The sheet behind a deed, for what surely is a sheet and a deed of one."""
    boot, number, pending = sheet
    if deed[0] == "boot":
        return (boot + 1, number, pending)
    if deed[0] == "write":
        return (boot, number + 1, pending + ((number + 1,) + deed[1:],))
    if deed[0] == "stand":
        return deed[1]
    if len(pending) > 0 and pending[0][0] == deed[1]:
        pending = pending[1:]
    return (boot, number, pending)


def noted_behind(sheet, deed):
    """The sheet behind a deed."""
    if not is_sheet(sheet):
        raise NoSheet()
    if not is_note(deed):
        raise NoNote()
    return sheet_behind(sheet, deed)
