"""Watching a world: what its clients trust, what is wrong with it, and what is still owed."""

from leasefiles.basics import edited
from leasefiles.errors import NoEdit, Unfit
from leasefiles.rows import row_of
from leasefiles.tables import done_number, file_at, is_in_force


def clients_of(world):
    """The numbers of all clients of a world."""
    return list(range(1, len(world.up())))


def trusted(world):
    """The tuples (client, name, kind, stamp, text) of all trusted views of clients that are up, ascending."""
    views = []
    for c, up in enumerate(world.up()):
        if c > 0 and up:
            views.extend([(c,) + view for view in world.client(c).trusted_views()])
    return tuple(views)


def is_leased(table, view):
    """Whether a lease of its kind is in force for a trusted view."""
    client, name, kind = view[:3]
    lease = row_of(table[2], (name, client))
    return lease is not None and lease[2] == kind and is_in_force(table[0], lease)


def with_pending(table, client, sheet, name):
    """The pair (stamp, text) of a file with a client's pending writes done behind it; () if they can't be done."""
    stamp, text = file_at(table, name)
    for number, written, _, edit in sheet[2]:
        # What the server has done already, though its client has not heard of it, is in the file.
        if written != name or number <= done_number(table, client):
            continue
        try:
            text = edited(text, edit)
        except (NoEdit, Unfit):
            return ()
        stamp = (stamp[0] + 1, client, number)
    return (stamp, text)


def goes_on(table, client, sheet):
    """Whether the pending writes of a client go on from what is done."""
    pending = sheet[2]
    return len(pending) == 0 or 0 <= pending[0][0] - done_number(table, client) <= 1


def pairs_of(views):
    """The complaints of two trusted views of one name, one of which at least is for writing."""
    found = []
    for k, view in enumerate(views):
        client, name, kind = view[:3]
        # One client has one view of a name, so the other client is a later one.
        for other in views[k + 1:]:
            if other[1] == name and "write" in (kind, other[2]):
                found.append(("two", client, other[0], name))
    return found


def complaints(world):
    """What is wrong in a world, ascending."""
    table = world.table()
    views = trusted(world)
    found = pairs_of(views)
    for view in views:
        client, name = view[:2]
        if not is_leased(table, view):
            found.append(("lease", client, name))
        if with_pending(table, client, world.sheet(client), name) != view[3:]:
            found.append(("text", client, name))
    for client in clients_of(world):
        if not goes_on(table, client, world.sheet(client)):
            found.append(("number", client))
    return tuple(sorted(found))


def owed(world):
    """The dict from each client that has pending writes to these."""
    sheets = {client: world.sheet(client) for client in clients_of(world)}
    return {client: sheets[client][2] for client in sheets if len(sheets[client][2]) > 0}
