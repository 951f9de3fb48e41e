"""Disks of two areas, and the items that are kept on them so that a fall amid writing does no harm."""

from leasefiles.basics import is_count, is_whole
from leasefiles.errors import NoArea, NoItems, NoNumber, NoStand, NoText
from leasefiles.arealines import Counted, line_behind, text_of_lines
from leasefiles.texts import is_lined, is_thing

WHOLE = ("whole",)


class Disk:
    """Two areas of text; what is written may be cut anywhere."""

    def __init__(self):
        self._areas = ["", ""]
        # What is read of the lines so far: a long area is not read anew for each line behind it.
        self._counted = [Counted(), Counted()]

    def area(self, k):
        """The text of an area."""
        if not is_area(k):
            raise NoArea()
        return self._areas[k]

    def append(self, k, text, most):
        """Writes the signs of a text behind an area, at most so many if most isn't None; tells how many."""
        if not is_area(k):
            raise NoArea()
        if not is_lined(text):
            raise NoText()
        if not is_most(most):
            raise NoNumber()
        written = text if most is None else text[:most]
        self._areas[k] = self._areas[k] + written
        return len(written)

    def clear(self, k):
        """Empties an area."""
        if not is_area(k):
            raise NoArea()
        self._areas[k] = ""
        self._counted[k] = Counted()

    def shorten(self, k, many):
        """Leaves the first so many signs of an area."""
        if not is_area(k):
            raise NoArea()
        if not is_count(many) or many > len(self._areas[k]):
            raise NoNumber()
        self._areas[k] = self._areas[k][:many]
        if many < self._counted[k].signs:
            self._counted[k] = Counted()

    def copy(self):
        """A disk like this one, that goes on apart."""
        other = Disk()
        other._areas = list(self._areas)
        other._counted = [counted.twin() for counted in self._counted]
        return other

    def counted(self, k):
        """The lines of an area that count."""
        found = self._counted[k]
        found.read_on(self._areas[k])
        return found

    def __eq__(self, other):
        return isinstance(other, Disk) and self._areas == other._areas


def is_area(thing):
    """Whether thing is the number of an area."""
    return is_whole(thing) and 0 <= thing <= 1


def is_most(thing):
    """Whether thing may bound how many signs are written."""
    return thing is None or is_count(thing)


def is_item(thing):
    """Whether thing may be an item: with its entry and its line around it it must be a thing still."""
    return is_thing(thing, 2)


def counted_lines(text):
    """The lines of a text that count."""
    if not is_lined(text):
        raise NoText()
    found = Counted()
    found.read_on(text)
    return found


def lines(text):
    """The entries of the lines of a text that count."""
    return counted_lines(text).entries


def rest(text):
    """How many signs the lines of a text have that count."""
    return counted_lines(text).signs


def has_word(entry, word):
    """Whether an entry is a pair that begins with this word."""
    return isinstance(entry, tuple) and len(entry) == 2 and entry[0] == word


def generation(entries):
    """The generation of the area with these entries, or None if it does not stand."""
    if len(entries) == 0 or not has_word(entries[0], "area") or not is_count(entries[0][1]):
        return None
    return entries[0][1] if WHOLE in entries else None


def standing(disk):
    """The area of a disk that stands, of two the one of the greater generation; None if none does."""
    first = generation(disk.counted(0).entries)
    second = generation(disk.counted(1).entries)
    if first is None and second is None:
        return None
    if first is None:
        return 1
    return 1 if second is not None and second > first else 0


def opened(disk):
    """Mends a disk, and tells the items of the area that stands."""
    k = standing(disk)
    if k is None:
        disk.clear(0)
        disk.clear(1)
        disk.append(0, text_of_lines([("area", 0), WHOLE]), None)
        return []
    counted = disk.counted(k)
    disk.shorten(k, counted.signs)
    disk.clear(1 - k)
    return [entry[1] for entry in counted.entries if has_word(entry, "item")]


def noted(disk, item, most):
    """Writes an item behind the area that stands, and tells how many signs were written."""
    if not is_item(item):
        raise NoItems()
    if not is_most(most):
        raise NoNumber()
    k = standing(disk)
    if k is None:
        raise NoStand()
    return disk.append(k, line_behind(disk.counted(k).total, ("item", item)), most)


def kept(disk, items, most):
    """Writes these items alone into the other area, newer than the standing one, and tells how many signs."""
    if not isinstance(items, tuple) or not all([is_item(item) for item in items]):
        raise NoItems()
    if not is_most(most):
        raise NoNumber()
    k = standing(disk)
    if k is None:
        raise NoStand()
    newer = generation(disk.counted(k).entries) + 1
    text = text_of_lines([("area", newer)] + [("item", item) for item in items] + [WHOLE])
    disk.clear(1 - k)
    return disk.append(1 - k, text, most)
