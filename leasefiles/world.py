"""A world: the server and its clients, their disks, and the letters on their way between them."""

from leasefiles.basics import is_client, is_count
from leasefiles.clients import Client
from leasefiles.disks import Disk, kept
from leasefiles.errors import NoClient, NoEvent, NoMachine, NoNumber
from leasefiles.events import OF_LETTERS, is_event
from leasefiles.fates import fates_of, lives_of
from leasefiles.letters import SERVER
from leasefiles.machines import noted_whole, sheet_of, table_of
from leasefiles.serving import served
from leasefiles.sheets import sheet_behind
from leasefiles.tables import table_behind

# How often the server may tick between two ticks of a client.
MOST_SERVER_TICKS = 2
MOST_EVENTS = 20000


def reader_of(letter):
    """The machine for which a letter is."""
    return 0 if letter[0] == SERVER else letter[0]


class World:
    """Machines that may fall at any time, and letters that may be lost, doubled and late."""

    def __init__(self, clients):
        if not is_client(clients):
            raise NoNumber()
        numbers = list(range(1, clients + 1))
        self._disks = [Disk() for _ in range(clients + 1)]
        # What each machine's disk tells: the server's table, then the clients' sheets.
        self._told = [table_of(self._disks[0])] + [sheet_of(self._disks[c]) for c in numbers]
        self._up = [True] * (clients + 1)
        # By machines: None for the server, and for clients that are down.
        self._clients = [None] + [Client(c, self._told[c]) for c in numbers]
        # How often the server ticked since each client ticked last, rose, or began.
        self._seen = [0] * (clients + 1)
        self._bag = []
        self._history = []
        self._moments = []
        self._events = []
        self._deeds = []

    def event(self, event):
        """Lets an event happen."""
        if not is_event(event) or not self._is_possible(event):
            raise NoEvent()
        self._events.append(event)
        word, what = event[0], event[1]
        if word == "do":
            self._begin(what, event[2])
        elif word == "again":
            self._carry_out(what, self._clients[what].again())
        elif word == "quick":
            self._tell(("quick", what, event[2], self._clients[what].quick(event[2])))
        elif word == "come":
            self._read(self._bag.pop(what))
        elif word == "double":
            self._read(self._bag[what])
        elif word == "lose":
            del self._bag[what]
        elif word == "cut":
            self._cut(self._bag.pop(what), event[2])
        elif word == "break":
            self._break(what, event[2], event[3])
        elif word == "fall":
            self._fall(what)
        elif word == "rise":
            self._rise(what)
        elif word == "compact":
            self._compact(what, event[2])
        else:
            self._tick(what)

    def bag(self):
        """The letters on their way."""
        return list(self._bag)

    def history(self):
        """What was seen from outside: operations that begin and end, quick reads, falls and rises."""
        return list(self._history)

    def events(self):
        """The events so far."""
        return list(self._events)

    def moments(self):
        """Item by item of the history the index of its event."""
        return list(self._moments)

    def deeds(self):
        """The triples (index of the event, machine, deed) of all deeds that were noted whole."""
        return list(self._deeds)

    def table(self):
        """The server's table."""
        return self._told[0]

    def sheet(self, c):
        """The sheet of a client, be it up or down."""
        if not self._has_client(c):
            raise NoClient()
        return self._told[c]

    def client(self, c):
        """A copy of a client that is up."""
        if not self._has_client(c) or not self._up[c]:
            raise NoClient()
        return self._clients[c].copy()

    def disk(self, m):
        """A copy of the disk of a machine."""
        if not is_count(m) or m >= len(self._up):
            raise NoMachine()
        return self._disks[m].copy()

    def up(self):
        """By machines, whether each is up."""
        return list(self._up)

    def fates(self):
        """The dict from each write that a client ever noted to what became of it."""
        return fates_of(self._told[1:], self._deeds)

    def lives(self):
        """The dict from each name to what its file was at the server, one behind another."""
        return lives_of(self._deeds)

    def settle(self, most):
        """Lets rounds of events happen until nothing waits any more, at most so many; tells how many."""
        if not is_count(most) or most > MOST_EVENTS:
            raise NoNumber()
        start = len(self._events)
        while self._goes_on(start + most):
            self._settle_round(start + most)
        return len(self._events) - start

    def copy(self):
        """A world like this one, that goes on apart."""
        other = World(len(self._up) - 1)
        other._disks = [disk.copy() for disk in self._disks]
        other._told = list(self._told)
        other._up = list(self._up)
        other._clients = [None if client is None else client.copy() for client in self._clients]
        other._seen = list(self._seen)
        other._bag = list(self._bag)
        other._history = list(self._history)
        other._moments = list(self._moments)
        other._events = list(self._events)
        other._deeds = list(self._deeds)
        return other

    def _has_client(self, c):
        """Whether there is such a client."""
        return is_client(c) and c < len(self._up)

    def _is_possible(self, event):
        """Whether what has the form of an event can happen now, and is let."""
        word, what = event[0], event[1]
        if word in OF_LETTERS:
            return what < len(self._bag) and (word != "cut" or self._up[reader_of(self._bag[what])])
        if what >= len(self._up) or self._up[what] == (word == "rise"):
            return False
        if word == "do" or word == "break":
            return self._clients[what].running() is None
        return event != ("tick", 0) or self._may_tick()

    def _may_tick(self):
        """Whether the server's clock does not run ahead of the clock of a client that is up."""
        return all([not up or seen < MOST_SERVER_TICKS for up, seen in zip(self._up[1:], self._seen[1:])])

    def _tell(self, item):
        """Adds an item to the history."""
        self._history.append(item)
        self._moments.append(len(self._events) - 1)

    def _note(self, m, deeds, most):
        """Lets a machine note deeds, at most so many signs of their lines."""
        whole = deeds[:noted_whole(self._disks[m], deeds, most)]
        for deed in whole:
            self._told[m] = table_behind(self._told[m], deed) if m == 0 else sheet_behind(self._told[m], deed)
            self._deeds.append((len(self._events) - 1, m, deed))

    def _carry_out(self, m, turn):
        """Lets a machine note the deeds of a turn, and write its letters behind them."""
        deeds, letters = turn
        self._note(m, deeds, None)
        self._bag.extend(letters)

    def _tell_end(self, c, op):
        """Tells the end of a client's operation, if it runs no more."""
        if op is not None and self._clients[c].running() is None:
            self._tell(("end", c, op, self._clients[c].result()))

    def _begin(self, c, op):
        """Lets a client begin an operation."""
        self._tell(("begin", c, op))
        self._carry_out(c, self._clients[c].begin(op))
        self._tell_end(c, op)

    def _read(self, letter):
        """Lets the machine for which a letter is read it, if it is up."""
        m = reader_of(letter)
        if not self._up[m]:
            return
        if m == 0:
            self._carry_out(0, served(self._told[0], letter))
            return
        op = self._clients[m].running()
        self._carry_out(m, self._clients[m].take(letter))
        self._tell_end(m, op)

    def _cut(self, letter, most):
        """Lets a machine fall while it notes what a letter makes it note."""
        m = reader_of(letter)
        turn = served(self._told[0], letter) if m == 0 else self._clients[m].take(letter)
        self._note(m, turn[0], most)
        self._fall(m)

    def _break(self, c, op, most):
        """Lets a client fall while it notes what an operation makes it note."""
        self._tell(("begin", c, op))
        self._note(c, self._clients[c].begin(op)[0], most)
        self._fall(c)

    def _fall(self, m):
        """Lets a machine fall: it loses all but its disk."""
        self._up[m] = False
        self._clients[m] = None
        self._tell(("fall", m))

    def _rise(self, m):
        """Lets a machine rise from its disk."""
        disk = self._disks[m]
        self._told[m] = table_of(disk) if m == 0 else sheet_of(disk)
        self._note(m, (("rise",) if m == 0 else ("boot",),), None)
        self._up[m] = True
        self._seen[m] = 0
        if m > 0:
            self._clients[m] = Client(m, self._told[m])
        self._tell(("rise", m))

    def _compact(self, m, most):
        """Lets a machine write anew what its disk keeps; it falls if the number of signs is bounded."""
        kept(self._disks[m], (("stand", self._told[m]),), most)
        if most is not None:
            self._fall(m)

    def _tick(self, m):
        """Lets the clock of a machine tick."""
        if m > 0:
            self._clients[m].tick()
            self._seen[m] = 0
            return
        self._note(0, (("tick",),), None)
        self._seen = [seen + 1 for seen in self._seen]

    def _is_waiting(self, c):
        """Whether a client has an operation that runs, or a pending write; it may be down."""
        return len(self._told[c][2]) > 0 or (self._up[c] and self._clients[c].running() is not None)

    def _goes_on(self, end):
        """Whether there is something to settle, and there were fewer events than so many."""
        if len(self._events) >= end:
            return False
        return len(self._bag) > 0 or any([self._is_waiting(c) for c in range(1, len(self._up))])

    def _settle_round(self, end):
        """One round of settling, as long as it goes on."""
        for m in range(len(self._up)):
            if not self._up[m]:
                self._settle_by(("rise", m), end)
        self._settle_bag(end)
        for c in range(1, len(self._up)):
            if self._is_waiting(c):
                self._settle_by(("again", c), end)
                self._settle_bag(end)
        for c in range(1, len(self._up)):
            self._settle_by(("tick", c), end)
        self._settle_by(("tick", 0), end)

    def _settle_by(self, event, end):
        """Lets an event of a round happen if settling goes on."""
        if self._goes_on(end):
            self.event(event)

    def _settle_bag(self, end):
        """Lets the first letter come until the bag is empty."""
        while len(self._bag) > 0 and self._goes_on(end):
            self.event(("come", 0))
