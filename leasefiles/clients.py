"""Clients that are up: their operations, views, pending writes and caches."""

from leasefiles.basics import FIRST_STAMP, edited, is_client, is_name, is_number, is_text_edit, names_in
from leasefiles.differences import parted
from leasefiles.errors import Busy, NoClient, NoLetter, NoName, NoOp, NoSheet, Unfit
from leasefiles.letters import MOST_PLACES, SERVER, is_letter
from leasefiles.operations import Turn, is_operation
from leasefiles.sheets import is_sheet, sheet_behind
from leasefiles.values import P, first_places, numbers_of

MOST_TICKS = 2

# The word that answers each letter that an operation writes.
ANSWERS = {
    "look": "told",
    "names": "list",
    "asides": "kept",
    "lease": "granted",
    "give": "given",
    "sums": "values",
    "roots": "files",
}


class Client:
    """A client that is up."""

    def __init__(self, client, sheet):
        if not is_client(client):
            raise NoClient()
        if not is_sheet(sheet):
            raise NoSheet()
        self._client = client
        self._sheet = sheet
        self._ticks = 0
        self._talks = 0
        self._views = {}
        self._called = {}
        self._files = {}
        self._operation = None
        self._letter = None
        self._asked = 0
        self._result = None

    def begin(self, op):
        """Begins an operation."""
        if not is_operation(op):
            raise NoOp()
        if self._operation is not None:
            raise Busy()
        self._operation = op
        turn = Turn()
        if op[0] == "write":
            self._begin_write(turn, op[1], op[2])
        elif op[0] == "hold":
            self._begin_hold(turn, op[1], op[2])
        elif op[0] == "flush":
            self._end_flush()
        elif op[0] == "refresh":
            self._ask(turn, "sums", (2,))
        elif op[0] == "lease" or op[0] == "give":
            self._drop_view(op[1])
            self._ask_waiting(turn)
        else:
            self._ask(turn, op[0], op[1:])
        return turn.told()

    def take(self, letter):
        """Reads a letter."""
        if not is_letter(letter) or letter[0] != self._client:
            raise NoLetter()
        turn = Turn()
        word, parts = letter[3], letter[4]
        if word == "done":
            self._read_done(turn, parts)
        elif word == "recall":
            self._read_recall(turn, parts[0])
        elif self._letter is not None and letter[2] == self._letter[2] and word == ANSWERS[self._letter[3]]:
            self._read_answer(turn, word, parts)
        return turn.told()

    def again(self):
        """Writes the letters that wait for an answer once more."""
        turn = Turn()
        self._send_first(turn)
        if self._letter is not None:
            turn.written.append(self._letter)
        return turn.told()

    def tick(self):
        """Lets the client's clock tick."""
        self._ticks += 1

    def running(self):
        """The operation that runs, or None."""
        return self._operation

    def result(self):
        """The result of the operation that ended last, or None."""
        return self._result

    def sheet(self):
        """The sheet."""
        return self._sheet

    def quick(self, name):
        """The pair (stamp, text) of the view of a name if it is trusted, or None."""
        if not is_name(name):
            raise NoName()
        return self._views[name][2:] if self._is_trusted(name) else None

    def trusted_views(self):
        """The tuples (name, kind, stamp, text) of the views that are trusted, ascending."""
        views = []
        for name in sorted(self._views):
            if self._is_trusted(name):
                kind, _, stamp, text = self._views[name]
                views.append((name, kind, stamp, text))
        return tuple(views)

    def cache(self):
        """The files that letters told, ascending."""
        return tuple([(name,) + self._files[name] for name in sorted(self._files)])

    def copy(self):
        """A client like this one, that goes on apart."""
        other = Client(self._client, self._sheet)
        other._ticks = self._ticks
        other._talks = self._talks
        other._views = dict(self._views)
        other._called = dict(self._called)
        other._files = dict(self._files)
        other._operation = self._operation
        other._letter = self._letter
        other._asked = self._asked
        other._result = self._result
        return other

    def _is_trusted(self, name):
        """Whether there is a view of a name that is trusted."""
        return name in self._views and self._ticks - self._views[name][1] <= MOST_TICKS

    def _is_pending(self, name):
        """Whether a pending write names a name."""
        return any([name in names_in(write[1], write[3]) for write in self._sheet[2]])

    def _drop_view(self, name):
        """Ends the view of a name, if there is one."""
        if name in self._views:
            del self._views[name]

    def _end(self, result):
        """Ends the operation with a result."""
        self._operation = None
        self._letter = None
        self._result = result

    def _end_flush(self):
        """Ends a flush if nothing is pending."""
        if len(self._sheet[2]) == 0:
            self._end(("flushed",))

    def _note(self, turn, deed):
        """Notes a deed of the sheet."""
        turn.noted.append(deed)
        self._sheet = sheet_behind(self._sheet, deed)

    def _say(self, turn, word, parts):
        """Writes a letter with a new talk, and tells it."""
        self._talks += 1
        letter = (SERVER, self._client, (self._sheet[0], self._talks), word, parts)
        turn.written.append(letter)
        return letter

    def _ask(self, turn, word, parts):
        """Writes the letter of the operation."""
        self._letter = self._say(turn, word, parts)
        self._asked = self._ticks

    def _say_give(self, turn, name):
        """Writes a give letter for a name, and tells it."""
        letter = self._say(turn, "give", (name,))
        self._drop_view(name)
        op = self._operation
        # What is granted to a letter ahead of the give does not count: its talk is no more the operation's.
        if self._letter is not None and op[0] == "lease" and op[1] == name:
            self._ask(turn, "lease", op[1:])
        return letter

    def _ask_waiting(self, turn):
        """Writes the letter of a lease or give that is not written yet, if no pending write names its name."""
        op = self._operation
        if op is None or self._letter is not None or op[0] not in ("lease", "give") or self._is_pending(op[1]):
            return
        if op[0] == "give":
            self._letter = self._say_give(turn, op[1])
        else:
            self._ask(turn, "lease", op[1:])

    def _send_first(self, turn):
        """Writes the first pending write."""
        pending = self._sheet[2]
        if len(pending) > 0:
            turn.written.append((SERVER, self._client, (self._sheet[0], 0), "do", pending[0]))

    def _add_write(self, turn, name, base, edit):
        """Notes a write, and sends it if it is the first one that is pending."""
        self._note(turn, ("write", name, base, edit))
        if len(self._sheet[2]) == 1:
            self._send_first(turn)

    def _begin_write(self, turn, name, edit):
        """Begins a write, whatever text the file has."""
        for named in names_in(name, edit):
            self._drop_view(named)
        self._add_write(turn, name, None, edit)

    def _begin_hold(self, turn, name, edit):
        """Does a write at once, on the text of a view, if this may and can be done."""
        made = self._held_text(name, edit)
        if len(made) == 0:
            self._end(("refused",))
            return
        kind, since, stamp, _ = self._views[name]
        self._add_write(turn, name, stamp, edit)
        number = self._sheet[1]
        newer = (stamp[0] + 1, self._client, number)
        self._views[name] = (kind, since, newer, made[0])
        self._end(("held", number, newer))

    def _held_text(self, name, edit):
        """The tuple (text,) of what a hold makes of the view of a name, or () if it is refused."""
        if not self._is_trusted(name) or self._views[name][0] != "write" or not is_text_edit(edit):
            return ()
        try:
            return (edited(self._views[name][3], edit),)
        except Unfit:
            return ()

    def _read_done(self, turn, done):
        """Settles the first pending write, if this is what became of it."""
        number = done[0]
        pending = self._sheet[2]
        if len(pending) == 0 or pending[0][0] != number:
            return
        self._note(turn, ("settled", number))
        self._send_first(turn)
        self._give_called(turn)
        self._ask_waiting(turn)
        op = self._operation
        if op is not None and op[0] == "write" and number == self._sheet[1]:
            # While a write runs no other one is noted behind it, so it is the one with the last number.
            self._end(("written",) + done[1:])
        elif op is not None and op[0] == "flush":
            self._end_flush()

    def _read_recall(self, turn, name):
        """Gives a lease back, as soon as no pending write needs it."""
        self._drop_view(name)
        self._called[name] = True
        self._give_called(turn)

    def _give_called(self, turn):
        """Writes gives of the names called back that no pending write names."""
        free = [name for name in sorted(self._called) if not self._is_pending(name)]
        for name in free:
            del self._called[name]
            self._say_give(turn, name)

    def _read_answer(self, turn, word, parts):
        """Reads the answer to the letter of the operation."""
        if word == "granted":
            self._read_granted(parts)
        elif word == "values":
            self._read_values(turn, parts)
        elif word == "files":
            self._remember(parts[0])
            self._end(("refreshed", len(self._files)))
        elif word == "told":
            self._remember((parts,))
            self._end(("looked",) + parts[1:])
        elif word == "list":
            self._end(("names", parts[0]))
        elif word == "kept":
            self._end(("asides", parts[1]))
        else:
            self._end(("given",))

    def _read_granted(self, parts):
        """Reads that a lease was granted."""
        name, kind, stamp, text = parts
        if self._operation[1:] != (name, kind):
            return
        self._remember(((name, stamp, text),))
        self._views[name] = (kind, self._asked, stamp, text)
        self._end(("leased", kind, stamp, text))

    def _remember(self, files):
        """Takes into the cache what is told of files, unless it has a later stamp of them."""
        for name, stamp, text in files:
            if stamp != FIRST_STAMP and (name not in self._files or self._files[name][0] < stamp):
                self._files[name] = (stamp, text)

    def _read_values(self, turn, parts):
        """Asks for what parts the cache from the server's files, or for more values if they don't tell it."""
        many, size, told = parts
        pair = None
        if len(told) == many and all([is_number(item) and item < P for item in told]):
            pair = parted(P, numbers_of(self.cache()), size, first_places(many), told, many)
        if pair is not None and pair[0] == (1,):
            self._end(("refreshed", len(self._files)))
        elif pair is not None:
            self._ask(turn, "roots", (pair[0],))
        elif 2 * many > MOST_PLACES:
            self._ask(turn, "roots", ((),))
        else:
            self._ask(turn, "sums", (2 * many,))
