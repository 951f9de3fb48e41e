"""Tables and sheets on disks: the deeds that a disk keeps, and what they tell."""

from leasefiles.disks import Disk, noted, opened, standing
from leasefiles.errors import NoDisk, NoItem
from leasefiles.sheets import bare_sheet, is_note, sheet_behind
from leasefiles.tables import bare_table, is_deed, table_behind


def table_of(disk):
    """The table that the items of a disk tell; the disk is mended."""
    if not isinstance(disk, Disk):
        raise NoDisk()
    # A disk with a wrong item stays as it is, so a copy is looked at first.
    table = bare_table()
    for index, item in enumerate(opened(disk.copy())):
        if not is_deed(item):
            raise NoItem(index)
        table = table_behind(table, item)
    opened(disk)
    return table


def sheet_of(disk):
    """The sheet that the items of a disk tell; the disk is mended."""
    if not isinstance(disk, Disk):
        raise NoDisk()
    # As with tables, a disk with a wrong item stays as it is.
    sheet = bare_sheet()
    for index, item in enumerate(opened(disk.copy())):
        if not is_note(item):
            raise NoItem(index)
        sheet = sheet_behind(sheet, item)
    opened(disk)
    return sheet


def counted_on(disk):
    """How many lines of the standing area of a disk count."""
    return len(disk.counted(standing(disk)).entries)


def noted_whole(disk, deeds, most):
    """Notes deeds one behind another, at most so many signs of all; tells how many of them were noted whole."""
    left = most
    for index, deed in enumerate(deeds):
        before = counted_on(disk)
        written = noted(disk, deed, left)
        if counted_on(disk) == before:
            return index
        if left is not None:
            left -= written
    return len(deeds)
