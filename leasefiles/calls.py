"""The reads and writes that were done in a world, as a history."""

from leasefiles.basics import FIRST_STAMP
from leasefiles.fates import files_by, server_deeds


def operations_of(world):
    """Lists [client, operation, begin, end, result] of all operations; end and result are None if it has not ended."""
    operations = []
    running = {}
    for item, moment in zip(world.history(), world.moments()):
        word, machine = item[0], item[1]
        if word == "begin":
            running[machine] = [machine, item[2], moment, None, None]
            operations.append(running[machine])
        elif word == "end":
            running[machine][3:] = [moment, item[3]]
    return operations


def numbers_of_writes(deeds):
    """The dict from (client, index of the event) of each write that was noted to its number."""
    numbers = {}
    last = {}
    for index, machine, deed in deeds:
        if machine > 0 and deed[0] == "write":
            last[machine] = last.get(machine, 0) + 1
            numbers[(machine, index)] = last[machine]
    return numbers


def stamps_of_writes(deeds):
    """The dict from (client, number) of each write that is done to the list of (name, stamp) of the files it made."""
    return {deed[1:3]: [(name, stamp) for name, stamp, _ in files_by(deed)] for deed in server_deeds(deeds)}


def end_moment(end):
    """The moment of an end at the event of an index, or None for what has not ended."""
    return None if end is None else 2 * end + 1


def read_of(operation):
    """The call of a look that has ended."""
    _, op, begin, end, result = operation
    stamp = result[1]
    return ("read", op[1], None if stamp == FIRST_STAMP else stamp, 2 * begin, end_moment(end))


def writes_of(operation, made):
    """The calls of a write or a hold that made these files."""
    op, begin, end = operation[1:4]
    # A hold ends before its write is done anywhere but at its own client.
    ended = end_moment(end) if op[0] == "write" else None
    return [("write", name, stamp, 2 * begin, ended) for name, stamp in made]


def calls_of(world):
    """The history of what was done in a world, in the order in which it began."""
    deeds = world.deeds()
    numbers = numbers_of_writes(deeds)
    stamps = stamps_of_writes(deeds)
    calls = []
    for operation in operations_of(world):
        client, op, begin, end = operation[:4]
        if op[0] == "look" and end is not None:
            calls.append(read_of(operation))
        elif (client, begin) in numbers:
            write = (client, numbers[(client, begin)])
            calls.extend(writes_of(operation, stamps.get(write, [])))
    return tuple(calls)
