"""The events of a world as a text, and a world that lives through them again."""

from leasefiles.arealines import text_of_lines
from leasefiles.basics import is_client
from leasefiles.disks import has_word, lines
from leasefiles.errors import NoDay, NoEvent
from leasefiles.world import World


def day(world):
    """The text of all events of a world."""
    first = ("world", len(world.up()) - 1)
    return text_of_lines([first] + [("event", event) for event in world.events()])


def is_done_in(world, entry):
    """Lets the event of an entry happen in a world; tells whether it is one that can be done."""
    if not has_word(entry, "event"):
        return False
    try:
        world.event(entry[1])
    except NoEvent:
        return False
    return True


def relived(text):
    """The world of a day, and how many of the day's events could be done in it."""
    entries = lines(text)
    if len(entries) == 0 or not has_word(entries[0], "world") or not is_client(entries[0][1]):
        raise NoDay()
    world = World(entries[0][1])
    many = 0
    for entry in entries[1:]:
        if not is_done_in(world, entry):
            break
        many += 1
    return (world, many)
