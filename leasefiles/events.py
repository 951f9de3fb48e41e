"""What may happen in a world, by its form alone."""

from leasefiles.basics import is_part, is_worded
from leasefiles.disks import is_most
from leasefiles.operations import is_operation
from leasefiles.texts import is_thing

EVENT_FORMS = {
    "do": ("client", "op"),
    "again": ("client",),
    "quick": ("client", "name"),
    "come": ("count",),
    "double": ("count",),
    "lose": ("count",),
    "cut": ("count", "count"),
    "break": ("client", "op", "count"),
    "fall": ("count",),
    "rise": ("count",),
    "compact": ("count", "most"),
    "tick": ("count",),
}
# The events that are told of a letter of the bag; all others are told of a machine.
OF_LETTERS = ("come", "double", "lose", "cut")


def is_event_part(thing, part):
    """Whether thing is what the word for a part of an event asks for."""
    if part == "op":
        return is_operation(thing)
    if part == "most":
        return is_most(thing)
    return is_part(thing, part)


def is_event(thing):
    """Whether thing has the form of an event."""
    if not is_worded(thing) or thing[0] not in EVENT_FORMS:
        return False
    form = EVENT_FORMS[thing[0]]
    if len(thing) != len(form) + 1 or not all([is_event_part(item, part) for item, part in zip(thing[1:], form)]):
        return False
    # An integer of too many digits would come onto a disk, or into a day, where no line can hold it.
    return is_thing(thing, 0)
