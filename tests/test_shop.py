"""Point 22: the shop, a plain house over a world."""

import random
import unittest

from leasefiles.basics import edited, is_edit
from leasefiles.days import day, relived
from leasefiles.errors import (
    LeaseError, NoClient, NoEdit, NoKind, NoMachine, NoName, NoNumber, Unfit, Unlet,
)
from leasefiles.shop import Shop
from leasefiles.tables import file_of
from leasefiles.watch import complaints
from leasefiles.world import World
from tests.drawn import NAMES
from tests.facts import Facts
from tests.parts import WRONG
from tests.samples import all_values, package_objects
from tests.worlds import after, state

NO_CLIENTS = [0, 3, 10, -1, True, False, None, "1", (1,), [1], {}, 10 ** 29]
NO_MACHINES = [3, 10, -1, True, False, None, "0", (0,), [0], {}, 10 ** 29]
PUT = ("put", "x")
# Each method of a client with right arguments behind the client, and the errors of these.
METHODS = [
    ("write", ("a", PUT), (NoName, NoEdit)),
    ("hold", ("a", PUT), (NoName, NoEdit)),
    ("lease", ("a", "read"), (NoName, NoKind)),
    ("look", ("a",), (NoName,)),
    ("give", ("a",), (NoName,)),
    ("flush", (), ()),
    ("quick", ("a",), (NoName,)),
]
PARTS = {NoName: "name", NoEdit: "edit", NoKind: "kind"}


class ShopCase(Facts):
    def assert_fails(self, error, shop, method, *arguments):
        before = state(shop.world())
        with self.assertRaises(LeaseError, msg=(method, arguments)) as caught:
            getattr(shop, method)(*arguments)
        self.assertIs(type(caught.exception), error, (method, arguments))
        self.assertEqual(state(shop.world()), before)

    def assert_settled(self, shop):
        self.assertEqual(shop.world().settle(20000), 0)


class Beginnings(ShopCase):
    def test_each_number_of_clients(self):
        for clients in range(1, 10):
            self.assertEqual(state(Shop(clients).world()), state(World(clients)))

    def test_no_numbers(self):
        for clients in [0, 10, -1, True, False, None, "1", (1,), [1], 10 ** 29] + package_objects():
            with self.assertRaises(NoNumber) as caught:
                Shop(clients)
            self.assertIs(type(caught.exception), NoNumber)

    def test_each_method_is_of_the_class_itself(self):
        for name in "write hold lease look give flush quick fall rise world".split():
            self.assertIn(name, vars(Shop))


class Uses(ShopCase):
    def test_write(self):
        shop = Shop(2)
        self.assertEqual(shop.write(1, "a", PUT), "applied")
        self.assert_settled(shop)
        self.assertEqual(shop.world().events(), [("do", 1, ("write", "a", PUT)), ("come", 0), ("come", 0)])
        self.assertEqual(shop.write(2, "a", ("splice", 1, 0, "y")), "applied")
        self.assertEqual(shop.write(1, "b", ("take", "a")), "applied")
        self.assertEqual(shop.write(1, "a", ("remove",)), "unfit")
        self.assertEqual(shop.write(1, "a", ("splice", 1, 0, "y")), "unfit")
        self.assertEqual(shop.write(1, "a", ("adopt", 2, 1)), "unfit")
        self.assertEqual(shop.write(1, "a", ("drop", 2, 1)), "unfit")
        self.assertEqual((shop.look(2, "a"), shop.look(2, "b")), (None, "xy"))
        self.assertEqual(shop.write(2, "b", ("remove",)), "applied")
        self.assertIsNone(shop.look(2, "b"))

    def test_look(self):
        shop = Shop(1)
        self.assertIsNone(shop.look(1, "a"))
        shop.write(1, "a", ("put", ""))
        self.assertEqual(shop.look(1, "a"), "")
        self.assertEqual(shop.world().history()[-1], ("end", 1, ("look", "a"), ("looked", (1, 1, 1), "")))
        self.assert_settled(shop)

    def test_lease_and_quick(self):
        shop = Shop(2)
        self.assertIsNone(shop.quick(1, "a"))
        self.assertIsNone(shop.lease(1, "a", "read"))
        self.assertEqual(shop.quick(1, "a"), ((0, 0, 0), None))
        self.assertIsNone(shop.quick(2, "a"))
        self.assertIsNone(shop.quick(1, "b"))
        shop.write(2, "b", PUT)
        self.assertEqual(shop.lease(1, "b", "write"), "x")
        self.assertEqual(shop.quick(1, "b"), ((1, 2, 1), "x"))
        # What is quick goes into the history, and settles nothing.
        self.assertEqual(shop.world().history()[-1], ("quick", 1, "b", ((1, 2, 1), "x")))
        self.assertEqual(shop.world().events()[-1], ("quick", 1, "b"))

    def test_a_lease_of_a_name_that_another_client_has(self):
        shop = Shop(2)
        shop.write(2, "a", PUT)
        self.assertEqual(shop.lease(1, "a", "write"), "x")
        self.assertIs(shop.hold(1, "a", ("put", "held")), True)
        # The lease is called back, and given behind the held write.
        self.assertEqual(shop.lease(2, "a", "write"), "held")
        self.assertIsNone(shop.quick(1, "a"))
        self.assertEqual(shop.quick(2, "a"), ((2, 1, 1), "held"))
        self.assertEqual(shop.lease(1, "a", "read"), "held")
        self.assertEqual(shop.lease(2, "a", "read"), "held")
        self.assertEqual((shop.quick(1, "a"), shop.quick(2, "a")), (((2, 1, 1), "held"),) * 2)
        self.assertEqual(shop.write(2, "a", PUT), "applied")
        self.assertEqual((shop.quick(1, "a"), shop.quick(2, "a")), (None, None))
        self.assert_settled(shop)

    def test_hold(self):
        shop = Shop(2)
        self.assertIs(shop.hold(1, "a", PUT), False)
        shop.lease(1, "a", "read")
        self.assertIs(shop.hold(1, "a", PUT), False)
        shop.lease(1, "a", "write")
        self.assertIs(shop.hold(2, "a", PUT), False)
        for edit in [("remove",), ("splice", 0, 1, ""), ("take", "b"), ("adopt", 1, 1), ("drop", 1, 1)]:
            self.assertIs(shop.hold(1, "a", edit), False)
        self.assertIs(shop.hold(1, "a", PUT), True)
        self.assertIs(shop.hold(1, "a", ("splice", 1, 0, "y")), True)
        # A hold does not settle.
        self.assertEqual([letter[3] for letter in shop.world().bag()], ["do"])
        self.assertEqual(shop.quick(1, "a"), ((2, 1, 2), "xy"))
        self.assertEqual(shop.world().fates(), {(1, 1): "pending", (1, 2): "pending"})
        self.assertEqual(shop.look(2, "b"), None)
        self.assertEqual(shop.world().fates(), {(1, 1): "applied", (1, 2): "applied"})
        self.assertEqual(shop.look(2, "a"), "xy")

    def test_give_and_flush(self):
        shop = Shop(1)
        shop.lease(1, "a", "write")
        shop.hold(1, "a", PUT)
        self.assertIsNone(shop.flush(1))
        self.assert_settled(shop)
        self.assertEqual(shop.world().fates(), {(1, 1): "applied"})
        self.assertEqual(shop.quick(1, "a"), ((1, 1, 1), "x"))
        self.assertIsNone(shop.give(1, "a"))
        self.assert_settled(shop)
        self.assertIsNone(shop.quick(1, "a"))
        self.assertEqual(shop.world().table()[2], ())
        self.assertIsNone(shop.give(1, "a"))
        self.assertIsNone(shop.flush(1))

    def test_a_write_that_is_set_aside(self):
        shop = Shop(2)
        shop.lease(1, "a", "write")
        shop.hold(1, "a", ("put", "held"))
        self.assertIsNone(shop.fall(1))
        # No letter is on its way any more, so the lease ends by the clock while client 2 writes.
        world = after(shop.world(), ("lose", 0))
        shop._world = world
        for _ in range(4):
            after(world, ("tick", 2), ("tick", 0), ("tick", 0))
        self.assertEqual(shop.write(2, "a", PUT), "applied")
        self.assertEqual(shop.world().fates(), {(1, 1): "aside", (2, 1): "applied"})
        self.assertEqual(shop.write(2, "b", ("adopt", 1, 1)), "unfit")
        self.assertEqual(shop.write(2, "a", ("adopt", 1, 1)), "applied")
        self.assertEqual(shop.look(1, "a"), "held")
        self.assertEqual(shop.write(1, "a", ("drop", 1, 1)), "unfit")

    def test_falls_and_rises(self):
        shop = Shop(2)
        for m in (0, 1, 2):
            self.assertIsNone(shop.fall(m))
            self.assertIs(shop.world().up()[m], False)
        self.assertEqual(shop.world().settle(20000), 0)
        for m in (2, 0, 1):
            self.assertIsNone(shop.rise(m))
        self.assertEqual(shop.world().up(), [True] * 3)
        self.assertEqual(shop.world().history(), [("fall", 0), ("fall", 1), ("fall", 2), ("rise", 2), ("rise", 0),
                                                  ("rise", 1)])

    def test_settling_lets_those_rise_that_are_down(self):
        shop = Shop(3)
        shop.fall(0)
        shop.fall(3)
        self.assertEqual(shop.write(1, "a", PUT), "applied")
        self.assertEqual(shop.world().up(), [True] * 4)
        # What ends at once needs nobody to rise.
        shop.fall(0)
        self.assertIsNone(shop.flush(1))
        self.assertEqual(shop.world().up(), [False, True, True, True])

    def test_each_but_hold_quick_fall_and_rise_settles(self):
        for method, arguments, _ in METHODS:
            shop = Shop(2)
            shop.lease(1, "b", "write")
            shop.hold(1, "b", PUT)
            self.assertEqual(len(shop.world().bag()), 1)
            getattr(shop, method)(1, *arguments)
            if method in ("hold", "quick"):
                self.assertEqual(len(shop.world().bag()), 1)
                self.assertGreater(shop.world().settle(20000), 0)
            else:
                self.assert_settled(shop)
                self.assertEqual(shop.world().fates()[(1, 1)], "applied")

    def test_world_is_a_copy(self):
        shop = Shop(2)
        shop.lease(1, "a", "write")
        shop.hold(1, "a", PUT)
        before = state(shop.world())
        world = shop.world()
        after(world, ("fall", 0), ("fall", 2))
        world.settle(20000)
        self.assertEqual(state(shop.world()), before)
        kept = shop.world()
        shop.fall(1)
        self.assertEqual(state(kept), before)


class Errors(ShopCase):
    def shop(self):
        shop = Shop(2)
        shop.lease(1, "a", "write")
        shop.hold(1, "a", ("put", "old"))
        return shop

    def test_right_arguments(self):
        for method, arguments, _ in METHODS:
            for c in (1, 2):
                getattr(self.shop(), method)(c, *arguments)

    def test_no_clients(self):
        shop = self.shop()
        for method, arguments, errors in METHODS:
            for c in NO_CLIENTS + package_objects():
                self.assert_fails(NoClient, shop, method, c, *arguments)
                # The first one's error, whatever is wrong behind it.
                self.assert_fails(NoClient, shop, method, c, *[None] * len(arguments))
        for c in all_values():
            if c != 1 or c is True:
                self.assert_fails(NoClient, Shop(2), "flush", c)

    def test_wrong_arguments(self):
        shop = self.shop()
        for method, arguments, errors in METHODS:
            for k, error in enumerate(errors):
                for wrong in WRONG[PARTS[error]] + package_objects():
                    handed = arguments[:k] + (wrong,) + arguments[k + 1:]
                    self.assert_fails(error, shop, method, 1, *handed)
                    self.assert_fails(error, shop, method, 2, *arguments[:k], *[wrong] * (len(arguments) - k))

    def test_no_machines(self):
        shop = self.shop()
        for method in ("fall", "rise"):
            for m in NO_MACHINES + package_objects():
                self.assert_fails(NoMachine, shop, method, m)

    def test_what_the_world_does_not_let(self):
        for m in (0, 1, 2):
            shop = self.shop()
            self.assert_fails(Unlet, shop, "rise", m)
            shop.fall(m)
            self.assert_fails(Unlet, shop, "fall", m)
            shop.rise(m)
            self.assert_fails(Unlet, shop, "rise", m)
        shop = self.shop()
        shop.fall(2)
        for method, arguments, errors in METHODS:
            self.assert_fails(Unlet, shop, method, 2, *arguments)
            for k, error in enumerate(errors):
                # What is wrong with the arguments stands ahead of what the world doesn't let.
                self.assert_fails(error, shop, method, 2, *arguments[:k], None, *arguments[k + 1:])

    def test_edits_with_integers_that_no_line_can_hold(self):
        shop = self.shop()
        self.assertTrue(is_edit(("splice", 10 ** 30, 0, "")))
        for method in ("write", "hold"):
            self.assert_fails(Unlet, shop, method, 1, "a", ("splice", 10 ** 30, 0, ""))
        self.assertEqual(shop.write(1, "a", ("splice", 10 ** 30 - 1, 0, "")), "unfit")


class Runs(ShopCase):
    def model_edit(self, files, name, edit):
        """The word of a write that is not set aside, done to a dict of texts; takes, adopts as far as no aside is there."""
        try:
            if edit[0] == "take":
                if edit[1] == name or files.get(edit[1]) is None:
                    return "unfit"
                files[name], files[edit[1]] = files[edit[1]], None
                return "applied"
            files[name] = edited(files.get(name), edit)
            return "applied"
        except Unfit:
            return "unfit"

    def drawn_use(self, chance, shop, files):
        """One use of a shop; what it tells is looked at by a dict of texts."""
        c = chance.randrange(1, len(shop.world().up()))
        name, other = chance.choice(NAMES), chance.choice(NAMES)
        edit = chance.choice([("put", "p"), ("put", ""), ("splice", 0, 0, "s"), ("splice", 1, 1, "t"), ("remove",)])
        use = chance.randrange(10)
        if use < 2:
            self.assertEqual(shop.look(c, name), files.get(name))
        elif use < 4:
            self.assertEqual(shop.lease(c, name, chance.choice(["read", "write"])), files.get(name))
            self.assertEqual(shop.quick(c, name)[1], files.get(name))
        elif use < 6:
            taken = chance.choice([edit, edit, ("take", other)])
            word = self.model_edit(files, name, taken)
            self.assertEqual(shop.write(c, name, taken), word)
        elif use < 8:
            stood = shop.quick(c, name)
            if shop.hold(c, name, edit):
                self.assertEqual(stood[1], files.get(name))
                self.assertEqual(self.model_edit(files, name, edit), "applied")
                self.assertEqual(shop.quick(c, name)[1], files[name])
        elif use < 9:
            shop.give(c, name)
            self.assertIsNone(shop.quick(c, name))
        else:
            shop.flush(c)

    def test_like_a_dict_of_texts(self):
        # No letter is lost and nobody falls, so no held write is ever set aside.
        for seed in range(12):
            chance = random.Random(seed)
            shop, files = Shop(1 + seed % 4), {}
            for _ in range(60):
                self.drawn_use(chance, shop, files)
                self.assert_facts(shop.world())
                self.assertEqual(complaints(shop.world()), ())
            shop.flush(1)
            for name in NAMES:
                self.assertEqual(file_of(shop.world().table(), name)[1], files.get(name))
            self.assertNotIn("aside", shop.world().fates().values())

    def test_with_falls(self):
        for seed in range(12):
            chance = random.Random(seed)
            shop = Shop(1 + seed % 4)
            for _ in range(80):
                up = shop.world().up()
                m = chance.randrange(len(up))
                what = chance.choice(["fall", "write", "hold", "hold", "lease", "lease", "look", "give", "flush", "quick"])
                name = chance.choice(NAMES)
                edit = chance.choice([("put", "p"), ("splice", 0, 0, "s"), ("remove",), ("take", chance.choice(NAMES))])
                arguments = {"write": (name, edit), "hold": (name, edit), "lease": (name, "write"), "flush": (), "fall": ()}
                if not up[m]:
                    shop.rise(m)
                elif what == "fall":
                    shop.fall(m)
                elif m > 0:
                    getattr(shop, what)(m, *arguments.get(what, (name,)))
                    if what not in ("hold", "quick"):
                        self.assert_settled(shop)
                self.assert_facts(shop.world())
                self.assertEqual(complaints(shop.world()), ())
            world = shop.world()
            self.assertEqual(state(relived(day(world))[0]), state(world))


if __name__ == "__main__":
    unittest.main()
