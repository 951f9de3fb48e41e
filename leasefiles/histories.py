"""Histories of reads and writes, and judges of whether they can be put into a right order."""

from leasefiles.basics import is_count, is_whole, is_worded
from leasefiles.errors import NoHistory
from leasefiles.texts import is_thing, packed

CALL_KINDS = ("read", "write")


def is_call(thing):
    """Whether thing is a call: (kind, name, told, begin, end)."""
    if not isinstance(thing, tuple) or len(thing) != 5:
        return False
    kind, name, told, begin, end = thing
    if kind not in CALL_KINDS or not isinstance(name, str):
        return False
    if not is_thing(told, 0) or (told is None and kind == "write"):
        return False
    return is_whole(begin) and (end is None or (is_whole(end) and begin < end))


def are_unlike(items):
    """Whether no two of some integers or strings are alike."""
    return len(set(items)) == len(items)


def is_history(thing):
    """Whether thing is a history."""
    if not isinstance(thing, tuple) or not all([is_call(call) for call in thing]):
        return False
    for indexes in by_names(thing):
        calls = [thing[k] for k in indexes]
        moments = [moment for call in calls for moment in call[3:] if moment is not None]
        # What is told may be nested deeper than a member of a set may be, its text is not nested at all.
        written = [packed(call[2]) for call in calls if call[0] == "write"]
        if not are_unlike(moments) or not are_unlike(written):
            return False
    return True


def by_names(history):
    """For each name the list of the indexes of its calls."""
    found = {}
    for k, call in enumerate(history):
        found.setdefault(call[1], []).append(k)
    return list(found.values())


def is_write(call):
    """Whether a call is a write."""
    return call[0] == "write"


def has_ended(call):
    """Whether a call has ended."""
    return call[4] is not None


def ended_ahead(first, second):
    """Whether a call ended ahead of another one's begin."""
    return has_ended(first) and first[4] < second[3]


def is_index(history, thing):
    """Whether thing is the index of a call."""
    return is_count(thing) and thing < len(history)


def is_order(history, thing):
    """Whether thing is an order: all calls that have ended, and perhaps writes that have not."""
    if not isinstance(thing, list) or not all([is_index(history, k) for k in thing]) or not are_unlike(thing):
        return False
    if not all([is_write(history[k]) or has_ended(history[k]) for k in thing]):
        return False
    return all([k in thing for k, call in enumerate(history) if has_ended(call)])


def is_right_order(history, thing):
    """Whether thing is a right order of a history."""
    if not is_history(history):
        raise NoHistory()
    if not is_order(history, thing):
        return False
    # By names: what the last write wrote, and the call that began last.
    written = {}
    latest = {}
    for k in thing:
        call = history[k]
        name = call[1]
        if name in latest and ended_ahead(call, latest[name]):
            return False
        if name not in latest or latest[name][3] < call[3]:
            latest[name] = call
        if is_write(call):
            written[name] = call[2]
        elif call[2] != written.get(name):
            return False
    return True


def takes_place(call):
    """Whether a call surely was done: a write, or a read that has ended."""
    return is_write(call) or has_ended(call)


def write_of(history, call):
    """The write of the name of a call that wrote what this tells, or None; of a write this is itself."""
    for other in history:
        if is_write(other) and other[1:3] == call[1:3]:
            return other
    return None


def is_strange(history, indexes):
    """Whether this is an ended read of what no write of its name wrote."""
    read = history[indexes[0]]
    return has_ended(read) and read[2] is not None and write_of(history, read) is None


def is_early(history, indexes):
    """Whether this is a read that ended ahead of the begin of the write of what it tells."""
    read = history[indexes[0]]
    write = write_of(history, read)
    return write is not None and ended_ahead(read, write)


def is_late(history, indexes):
    """Whether the first call needs a write ahead of the second one, a read of nothing, and ended ahead of it."""
    call, read = history[indexes[0]], history[indexes[1]]
    # No write tells None.
    if not has_ended(read) or read[2] is not None or call[1] != read[1]:
        return False
    return call[2] is not None and takes_place(call) and ended_ahead(call, read)


def is_crossed(history, indexes):
    """Whether the calls of one told can stand neither ahead of nor behind those of another one."""
    a, b, c, d = [history[k] for k in indexes]
    if not all([takes_place(call) and call[1] == a[1] and call[2] is not None for call in (a, b, c, d)]):
        return False
    if a[2] != b[2] or c[2] != d[2] or a[2] == c[2]:
        return False
    return ended_ahead(a, c) and ended_ahead(d, b)


# How many calls each kind of bar names, and whether they are one.
BAR_LENGTHS = {"strange": 1, "early": 1, "late": 2, "crossed": 4}
BAR_JUDGES = {
    "strange": is_strange,
    "early": is_early,
    "late": is_late,
    "crossed": is_crossed,
}


def is_bar(history, thing):
    """Whether thing is a bar of a history: what shows that it has no right order."""
    if not is_history(history):
        raise NoHistory()
    if not is_worded(thing) or thing[0] not in BAR_JUDGES or len(thing) != BAR_LENGTHS[thing[0]] + 1:
        return False
    if not all([is_index(history, k) for k in thing[1:]]):
        return False
    return is_barred_by(history, thing)


def is_barred_by(history, thing):
    """Whether what has the form of a bar is one."""
    judge = BAR_JUDGES[thing[0]]
    return judge(history, thing[1:])


def lots_of(history, indexes):
    """Lists of the indexes of calls that surely were done and told the same, of all that told something."""
    found = {}
    for k in indexes:
        call = history[k]
        if takes_place(call) and call[2] is not None:
            found.setdefault(packed(call[2]), []).append(k)
    # A write that has not ended, and that nobody read, may be left out.
    return [lot for lot in list(found.values()) if any([has_ended(history[k]) for k in lot])]


def first_ended(history, indexes):
    """The index of the call that ended first, of some of which one has ended."""
    return min([(history[k][4], k) for k in indexes if has_ended(history[k])])[1]


def last_begun(history, indexes):
    """The index of the call that began last, of some."""
    return max([(history[k][3], k) for k in indexes])[1]


def bars_to_try(history, indexes):
    """Of the calls of one name the bars of which at least one is one, if there is any."""
    lots = lots_of(history, indexes)
    edges = [(first_ended(history, lot), last_begun(history, lot)) for lot in lots]
    tried = [(word, k) for word in ("strange", "early") for k in indexes]
    if len(edges) > 0:
        first = first_ended(history, [edge[0] for edge in edges])
        tried.extend([("late", first, k) for k in indexes])
    for a, b in edges:
        tried.extend([("crossed", a, b, c, d) for d, c in edges])
    return tried


def bar(history):
    """A bar of a history, or None if it has a right order."""
    if not is_history(history):
        raise NoHistory()
    for indexes in by_names(history):
        for thing in bars_to_try(history, indexes):
            if is_barred_by(history, thing):
                return thing
    return None


def writes_first(history, indexes):
    """Indexes of calls, those of writes first, else in the order in which they began."""
    keys = [(0 if is_write(history[k]) else 1, history[k][3], k) for k in indexes]
    return [key[2] for key in sorted(keys)]


def order_of_name(history, indexes):
    """A right order of the calls of one name, for which there is no bar."""
    order = writes_first(history, [k for k in indexes if has_ended(history[k]) and history[k][2] is None])
    placed = []
    for lot in lots_of(history, indexes):
        # Where no two lots are crossed, one must stand ahead of another one only if this moment of it is the earlier.
        moment = min(history[first_ended(history, lot)][4], history[last_begun(history, lot)][3])
        placed.append((moment, writes_first(history, lot)))
    for _, lot in sorted(placed):
        order.extend(lot)
    return order


def right_order(history):
    """A right order of a history, or None if there is none."""
    if bar(history) is not None:
        return None
    order = []
    for indexes in by_names(history):
        order.extend(order_of_name(history, indexes))
    return order
