"""What the tests of worlds share: events one behind another, and all that a world tells."""

from leasefiles.world import World
from tests.drawn import NAMES


def after(world, *events):
    """The world, when these events have happened in it."""
    for event in events:
        world.event(event)
    return world


def delivered(world):
    """The world, when letters have come until the bag is empty."""
    while world.bag():
        world.event(("come", 0))
    return world


def done(world, c, op):
    """The world, when a client has begun an operation and all letters have come."""
    return delivered(after(world, ("do", c, op)))


def client_state(client):
    return (client.sheet(), client.running(), client.result(), [client.quick(name) for name in NAMES], client.cache(),
            client.again())


def areas(disk):
    return (disk.area(0), disk.area(1))


def clients_of(world):
    return range(1, len(world.up()))


def state(world):
    """All that a world tells."""
    clients = [client_state(world.client(c)) if world.up()[c] else None for c in clients_of(world)]
    disks = [areas(world.disk(m)) for m in range(len(world.up()))]
    sheets = [world.sheet(c) for c in clients_of(world)]
    lists = [world.bag(), world.history(), world.events(), world.moments(), world.deeds(), world.up()]
    return (world.table(), sheets, clients, disks, lists, world.fates(), world.lives())


def ticked(world, many):
    """The world, when all clocks ticked so many times; all its machines are up."""
    for _ in range(many):
        after(world, *[("tick", m) for m in range(len(world.up()))])
    return world


def leased(clients=2, kind="write"):
    """A world in which client 1 has a trusted lease of file a."""
    return done(World(clients), 1, ("lease", "a", kind))


def estranged():
    """A world of two clients: a put that client 1 held at file a was set aside, behind a write of client 2."""
    world = after(leased(), ("do", 1, ("hold", "a", ("put", "held"))), ("lose", 0), ("fall", 1))
    for _ in range(4):
        after(world, ("tick", 2), ("tick", 0), ("tick", 0))
    done(world, 2, ("write", "a", ("put", "late")))
    return delivered(after(world, ("rise", 1), ("again", 1)))
