"""A plain house over a world: each call does one thing, and most of them let the world settle."""

from leasefiles.basics import is_client, is_count, is_edit, is_kind, is_name
from leasefiles.errors import NoClient, NoEdit, NoEvent, NoKind, NoMachine, NoName, Unlet
from leasefiles.world import MOST_EVENTS, World


def name_checked(thing):
    """The name that thing is."""
    if not is_name(thing):
        raise NoName()
    return thing


def edit_checked(thing):
    """The edit that thing is."""
    if not is_edit(thing):
        raise NoEdit()
    return thing


def kind_checked(thing):
    """The kind of leases that thing is."""
    if not is_kind(thing):
        raise NoKind()
    return thing


class Shop:
    """A world of which only the plain uses are at hand."""

    def __init__(self, clients):
        self._world = World(clients)

    def write(self, c, name, edit):
        """Writes, and tells the word of what became of it."""
        return self._settled(self._checked(c), ("write", name_checked(name), edit_checked(edit)))[1]

    def hold(self, c, name, edit):
        """Writes without asking, if a lease allows it; tells whether it was held."""
        return self._done(self._checked(c), ("hold", name_checked(name), edit_checked(edit)))[0] == "held"

    def lease(self, c, name, kind):
        """Leases a file, and tells its text or None."""
        return self._settled(self._checked(c), ("lease", name_checked(name), kind_checked(kind)))[3]

    def look(self, c, name):
        """Looks at a file, and tells its text or None."""
        return self._settled(self._checked(c), ("look", name_checked(name)))[2]

    def give(self, c, name):
        """Gives a lease back."""
        self._settled(self._checked(c), ("give", name_checked(name)))

    def flush(self, c):
        """Waits until no write of a client is pending."""
        self._settled(self._checked(c), ("flush",))

    def quick(self, c, name):
        """Reads without asking: the pair (stamp, text), or None if no lease is trusted."""
        self._let(("quick", self._checked(c), name_checked(name)))
        return self._world.client(c).quick(name)

    def fall(self, m):
        """Lets a machine fall."""
        self._let(("fall", self._machine_checked(m)))

    def rise(self, m):
        """Lets a machine rise."""
        self._let(("rise", self._machine_checked(m)))

    def world(self):
        """A copy of the world."""
        return self._world.copy()

    def _machine_checked(self, thing):
        """The machine that thing is."""
        if not is_count(thing) or thing >= len(self._world.up()):
            raise NoMachine()
        return thing

    def _checked(self, thing):
        """The client that thing is."""
        if not is_client(thing) or thing >= len(self._world.up()):
            raise NoClient()
        return thing

    def _let(self, event):
        """Lets an event happen."""
        try:
            self._world.event(event)
        except NoEvent:
            raise Unlet()

    def _done(self, c, op):
        """Lets a client begin an operation, and tells the result of the one that ended last."""
        self._let(("do", c, op))
        return self._world.client(c).result()

    def _settled(self, c, op):
        """Lets a client do an operation and the world settle, and tells the result."""
        self._done(c, op)
        self._world.settle(MOST_EVENTS)
        return self._world.client(c).result()
