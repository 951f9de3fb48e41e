"""Runs of worlds that are drawn: events of all words, most of which can happen when they are drawn."""

from leasefiles.errors import NoEvent
from leasefiles.world import World

NAMES = ["a", "b", "c"]


def drawn_edit(chance, world):
    """An edit; adopts and drops are mostly of an aside that is there."""
    asides = [row[:2] for row in world.table()[4]]
    aside = (chance.randrange(1, len(world.up())), chance.randrange(1, 8))
    if asides and chance.random() < 0.3:
        return (chance.choice(["adopt", "adopt", "drop"]),) + chance.choice(asides)
    return chance.choice([
        ("put", chance.choice(["", "x", "yy", "it's", "~#"])), ("put", "text"), ("put", "more"), ("splice", 0, 0, "s"),
        ("splice", chance.randrange(3), chance.randrange(2), "m"), ("remove",), ("take", chance.choice(NAMES)),
        ("adopt",) + aside, ("drop",) + aside,
    ])


def drawn_name(chance, world, edit):
    """The name for a write of an edit; that of the aside for adopts and drops, mostly."""
    names = [row[2] for row in world.table()[4] if row[:2] == edit[1:]]
    return names[0] if names and chance.random() < 0.9 else chance.choice(NAMES)


def drawn_operation(chance, world, c):
    """An operation for a client; many holds where it has a view."""
    trusted = [name for name in NAMES if world.up()[c] and world.client(c).quick(name) is not None]
    edit = drawn_edit(chance, world)
    if trusted and chance.random() < 0.5:
        held = chance.choice([("put", "h"), ("splice", 0, 0, "i"), ("remove",), edit])
        return ("hold", chance.choice(trusted), held)
    name = chance.choice(NAMES)
    write = ("write", drawn_name(chance, world, edit), edit)
    return chance.choice([
        ("look", name), ("look", name), ("names",), ("asides", name), ("lease", name, "read"), ("lease", name, "write"),
        ("lease", name, "write"), ("lease", name, "write"), ("give", name), write, write, write, write,
        ("hold", name, edit), ("flush",), ("refresh",),
    ])


def drawn_signs(chance):
    """How many signs are written ere a machine falls."""
    return chance.choice([0, 1, chance.randrange(40), chance.randrange(90), chance.randrange(300), 10 ** 6])


def drawn_event(chance, world, rough):
    """An event; the rougher the run, the more letters are lost and the more machines fall."""
    up = world.up()
    many = len(world.bag())
    c, m = chance.randrange(1, len(up)), chance.randrange(len(up))
    if chance.random() < rough:
        k = chance.randrange(many) if many else 0
        down = [machine for machine, flag in enumerate(up) if not flag]
        return chance.choice([
            ("lose", k), ("double", k), ("double", k), ("cut", k, drawn_signs(chance)), ("cut", k, drawn_signs(chance)),
            ("break", c, drawn_operation(chance, world, c), drawn_signs(chance)), ("fall", m),
            ("compact", m, None), ("compact", m, drawn_signs(chance)),
        ] + [("rise", chance.choice(down or [0]))] * 3)
    what = chance.random()
    if what < 0.73:
        runs = up[c] and world.client(c).running() is not None
        if many and chance.random() < (0.9 if runs else 0.3):
            return ("come", 0 if chance.random() < 0.6 else chance.randrange(many))
        return ("again", c) if runs else ("do", c, drawn_operation(chance, world, c))
    if what < 0.77:
        return ("quick", c, chance.choice(NAMES))
    # A client's tick is always let, the server's only now and then.
    return ("tick", chance.choice([0, m, c]))


def parting(chance, world):
    """Yields events by which a client holds writes, then falls, its letters are lost, its leases end; others write."""
    c = chance.randrange(1, len(world.up()))
    name = chance.choice(NAMES)
    others = [other for other in range(1, len(world.up())) if other != c]
    yield ("do", c, ("lease", name, "write"))
    for _ in range(4):
        yield ("come", len(world.bag()) - 1)
    for _ in range(chance.randrange(1, 4)):
        yield ("do", c, ("hold", name, chance.choice([("put", "held"), ("splice", 0, 0, "h"), ("remove",)])))
    yield ("fall", c)
    for k in reversed(range(len(world.bag()))):
        if c in world.bag()[k][:2]:
            yield ("lose", k)
    for _ in range(5):
        yield from [("tick", other) for other in others] + [("tick", 0), ("tick", 0)]
    for other in others:
        yield ("do", other, ("write", name, ("put", "late")))
        yield ("come", len(world.bag()) - 1)


def drawn_run(chance, clients, many, rough):
    """Yields the world of a run behind each event that happened; many events are drawn."""
    world = World(clients)
    for _ in range(many):
        events = parting(chance, world) if chance.random() < rough / 5 else [drawn_event(chance, world, rough)]
        for event in events:
            try:
                world.event(event)
            except NoEvent:
                continue
            yield world
