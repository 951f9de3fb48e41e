"""The lines of an area, each of which is sealed with the check of all ahead of it."""

from leasefiles.texts import check_behind, sealed, unsealed


def line_behind(total, entry):
    """The line of an entry behind a text that has the check total."""
    return sealed((total, entry)) + "\n"


def entry_of(line, total):
    """The tuple (entry,) if a line without its line feed counts behind the check total, else ()."""
    for thing in unsealed(line):
        if isinstance(thing, tuple) and len(thing) == 2 and thing[0] == total:
            return (thing[1],)
    return ()


def text_of_lines(entries):
    """The text of the lines of these entries, from the first sign of an area on."""
    parts = []
    total = 0
    many = 0
    for entry in entries:
        line = line_behind(total, entry)
        parts.append(line)
        total = check_behind(total, many, line)
        many += len(line)
    return "".join(parts)


class Counted:
    """The lines of a text that count, as far as they are read: their entries, signs and check."""

    def __init__(self):
        self.entries = []
        self.signs = 0
        self.total = 0

    def read_on(self, text):
        """Reads further lines of a text that begins with the lines read so far."""
        while True:
            end = text.find("\n", self.signs)
            if end < 0:
                return
            found = entry_of(text[self.signs:end], self.total)
            if len(found) == 0:
                return
            self.entries.append(found[0])
            self.total = check_behind(self.total, self.signs, text[self.signs:end + 1])
            self.signs = end + 1

    def twin(self):
        """One like this, that goes on apart."""
        other = Counted()
        other.entries = list(self.entries)
        other.signs = self.signs
        other.total = self.total
        return other
