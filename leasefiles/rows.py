"""Ascending tuples of rows, each known by its key: its first so many items."""

from leasefiles.basics import has_form


def is_ascending(items):
    """Whether each item stands above the one ahead of it."""
    return all([first < second for first, second in zip(items, items[1:])])


def is_rows(thing, form, many):
    """Whether thing is an ascending tuple of rows of a form, with one row for each key of so many items."""
    if not isinstance(thing, tuple) or not all([has_form(row, form) for row in thing]):
        return False
    # Rows of unlike keys are in the order of these; what stands behind the keys may have no order at all.
    return is_ascending([row[:many] for row in thing])


def row_of(rows, key):
    """The row with this key, or None."""
    for row in rows:
        if row[:len(key)] == key:
            return row
    return None


def without_row(rows, key):
    """The rows without the one with this key."""
    return tuple([row for row in rows if row[:len(key)] != key])


def with_row(rows, row, many):
    """The rows with this one, instead of the one of its key of so many items if there is one."""
    key = row[:many]
    below = [other for other in rows if other[:many] < key]
    above = [other for other in rows if other[:many] > key]
    return (*below, row, *above)
