"""Point 21: days, and worlds that live through them again."""

import random
import unittest

from leasefiles.days import day, relived
from leasefiles.errors import LeaseError, NoDay, NoText
from leasefiles.texts import check, sealed
from leasefiles.world import World
from tests.drawn import drawn_run
from tests.samples import all_values, not_strings, package_objects
from tests.worlds import after, state

PUT = ("write", "a", ("put", "it's ~ x"))
HOLD = ("hold", "a", ("splice", 0, 0, "h"))
# Events of all words, of which each can be done behind those ahead of it.
ALL_WORDS = [
    ("do", 1, ("lease", "a", "write")), ("come", 0), ("come", 0), ("do", 1, ("hold", "a", ("put", ""))), ("do", 1, HOLD),
    ("quick", 1, "a"), ("do", 2, PUT), ("double", 0), ("tick", 0), ("tick", 1), ("lose", 1), ("again", 2), ("come", 2),
    ("cut", 0, 7), ("rise", 0), ("compact", 1, None), ("break", 1, ("flush",), 0), ("rise", 1), ("again", 1),
    ("compact", 0, 30), ("rise", 0), ("fall", 2), ("rise", 2), ("do", 2, ("refresh",)), ("break", 1, HOLD, 10 ** 29),
]


def text_of(*entries):
    """The text of the lines of entries, straight from what point 7 says of lines."""
    text = ""
    for entry in entries:
        text += sealed((check(text), entry)) + "\n"
    return text


def day_of(clients, *events):
    return text_of(("world", clients), *[("event", event) for event in events])


def full_world():
    return after(World(2), *ALL_WORDS)


def states_of(events, clients):
    """All that a world tells, behind each number of events."""
    world = World(clients)
    told = [state(world)]
    for event in events:
        told.append(state(after(world, event)))
    return told


class Days(unittest.TestCase):
    def assert_relived(self, text, many, told):
        world, number = relived(text)
        self.assertEqual(number, many)
        self.assertEqual(state(world), told)

    def test_new_worlds(self):
        for clients in range(1, 10):
            text = day(World(clients))
            self.assertEqual(text, text_of(("world", clients)))
            self.assert_relived(text, 0, state(World(clients)))
        self.assertEqual(day(World(2)), "(0,('world',2))#4074\n")

    def test_all_words(self):
        self.assertEqual({event[0] for event in ALL_WORDS}, set(
            "do again quick come double lose cut break fall rise compact tick".split()))
        world = full_world()
        self.assertEqual(day(world), day_of(2, *ALL_WORDS))
        self.assert_relived(day(world), len(ALL_WORDS), state(world))

    def test_the_told_pair(self):
        told = relived(day(full_world()))
        self.assertIsInstance(told, tuple)
        self.assertEqual(len(told), 2)
        self.assertIsInstance(told[0], World)
        self.assertIs(type(told[1]), int)

    def test_a_world_relived_goes_on_alike(self):
        world = full_world()
        other = relived(day(world))[0]
        self.assertEqual(other.settle(20000), world.settle(20000))
        self.assertEqual(state(other), state(world))
        self.assertEqual(day(other), day(world))

    def test_drawn_worlds(self):
        for seed in range(24):
            for world in drawn_run(random.Random(seed), 1 + seed % 4, 150, 0.1 * (seed % 3)):
                pass
            self.assert_relived(day(world), len(world.events()), state(world))
            world.settle(20000)
            self.assert_relived(day(world), len(world.events()), state(world))
            self.assert_relived(day(world.copy()), len(world.events()), state(world))

    def test_telling_changes_nothing(self):
        world = full_world()
        before = state(world)
        day(world)
        self.assertEqual(state(world), before)


class Spoiled(unittest.TestCase):
    def setUp(self):
        self.text = day(full_world())
        self.rows = self.text.splitlines(True)
        self.states = states_of(ALL_WORDS, 2)

    def assert_leads_to(self, text, many):
        """That a text leads to the world behind so many events; no day at all if many is below 0."""
        if many < 0:
            self.assertRaises(NoDay, relived, text)
            return
        world, number = relived(text)
        self.assertEqual(number, many)
        self.assertEqual(state(world), self.states[many])

    def test_cut_at_each_place(self):
        ends = [len("".join(self.rows[:k])) for k in range(len(self.rows) + 1)]
        for place in range(len(self.text) + 1):
            self.assert_leads_to(self.text[:place], max(k for k in range(len(ends)) if ends[k] <= place) - 1)

    def test_a_sign_changed(self):
        chance = random.Random(21)
        for place in range(0, len(self.text), 3):
            sign = chance.choice([sign for sign in "a0( '#~\n)" if sign != self.text[place]])
            text = self.text[:place] + sign + self.text[place + 1:]
            self.assert_leads_to(text, self.text[:place].count("\n") - 1)

    def test_lines_left_out_doubled_and_exchanged(self):
        for k, row in enumerate(self.rows):
            self.assert_leads_to("".join(self.rows[:k] + self.rows[k + 1:]), k - 1)
            self.assert_leads_to("".join(self.rows[:k] + [row] + self.rows[k:]), k)
            for j in range(k):
                rows = self.rows[:j] + [row] + self.rows[j + 1:k] + [self.rows[j]] + self.rows[k + 1:]
                self.assert_leads_to("".join(rows), j - 1)

    def test_torn_lines_behind(self):
        for more in ["x", "\n", "(", self.rows[1], self.rows[-1], " ", text_of(("event", ("tick", 1)))]:
            self.assert_leads_to(self.text + more, len(ALL_WORDS))

    def test_lines_that_count_but_can_not_be_done(self):
        for wrong in [
            ("event", ("come", 0)), ("event", ("rise", 0)), ("event", ("tick", 3)), ("event", ("do", 3, PUT)),
            ("event", ("do", 1, ("look", "A"))), ("event", None), ("event", ()), ("event", "tick"), ("event", ("tick",)),
            ("event", ("tick", 1), 0), ("event",), ("events", ("tick", 1)), ("tick", 1), "event", None, 5, (),
            ("world", 2), ("item", ("tick", 1)), ("event", (("tick", 1),)), (("tick", 1), "event"),
        ]:
            text = text_of(("world", 2), ("event", ("tick", 1)), wrong, ("event", ("tick", 2)))
            self.assert_text(text, 2, [("tick", 1)])
            self.assert_text(text_of(("world", 2), wrong), 2, [])

    def assert_text(self, text, clients, events):
        world, many = relived(text)
        self.assertEqual((many, world.events()), (len(events), events))
        self.assertEqual(state(world), state(after(World(clients), *events)))

    def test_an_event_that_is_not_let(self):
        ticks = [("tick", 0)] * 3
        self.assert_text(day_of(1, *ticks, ("tick", 1)), 1, ticks[:2])
        self.assert_text(day_of(1, *ticks[:2], ("tick", 1), *ticks), 1, ticks[:2] + [("tick", 1)] + ticks[:2])
        self.assert_text(day_of(1, ("do", 1, PUT), ("do", 1, PUT)), 1, [("do", 1, PUT)])
        self.assert_text(day_of(1, ("fall", 1), ("again", 1)), 1, [("fall", 1)])

    def test_events_of_a_client_that_is_not_there(self):
        self.assert_text(day_of(1, ("tick", 1), ("tick", 2), ("tick", 1)), 1, [("tick", 1)])
        self.assert_text(day_of(3, ("tick", 1), ("tick", 2), ("tick", 3)), 3, [("tick", 1), ("tick", 2), ("tick", 3)])


class Errors(unittest.TestCase):
    def assert_fails(self, error, text):
        with self.assertRaises(LeaseError, msg=text) as caught:
            relived(text)
        self.assertIs(type(caught.exception), error)

    def test_no_texts(self):
        right = day_of(2, ("tick", 1))
        for thing in not_strings() + package_objects() + [[right], (right,), ["tick"], {right: 1}]:
            self.assert_fails(NoText, thing)
        for sign in [chr(127), chr(31), chr(233), "\t", "\r"]:
            # What counts ahead of the sign does not help.
            for text in (sign, right + sign, sign + right, right[:9] + sign):
                self.assert_fails(NoText, text)

    def test_no_days(self):
        for text in [value for value in all_values() if isinstance(value, str)] + ["", "\n", "world"]:
            self.assert_fails(NoDay, text)
        for first in [("world", 0), ("world", 10), ("world", -1), ("world", None), ("world", "1"), ("world", (1,)),
                      ("world",), ("world", 1, 1), ("world", 10 ** 29), ("worlds", 1), ("event", ("tick", 1)), "world",
                      1, None, (), (1, "world"), (("world", 1),), ("area", 0)]:
            self.assert_fails(NoDay, text_of(first))
            self.assert_fails(NoDay, text_of(first, ("world", 1)))
            self.assert_fails(NoDay, text_of(first, ("event", ("tick", 1))))
        # A flag is no thing, so it can't be written in a line at all.
        self.assert_fails(NoDay, "(0,('world',True))#%d\n" % check("(0,('world',True))"))

    def test_a_first_line_that_does_not_count(self):
        text = day_of(2)
        self.assert_fails(NoDay, text[:-1])
        self.assert_fails(NoDay, "\n" + text)
        self.assert_fails(NoDay, " " + text)
        self.assert_fails(NoDay, text.replace("2", "3", 1))
        self.assert_fails(NoDay, sealed((1, ("world", 2))) + "\n" + day_of(2))


if __name__ == "__main__":
    unittest.main()
