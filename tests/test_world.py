"""Points 1 and 2, and what movehouse.world refuses: which worlds are made, and which deeds are not done."""

import copy
import itertools
import unittest

from movehouse.errors import (
    BadWish, BadWorld, Busy, Idle, MoveError, NoCaller, NoHouse, NoKey, NoLetter, NotHere,
)
from movehouse.world import World
from support import carry, hand_all, told

TOP = 10 ** 30
METHODS = (
    "call", "again", "letters", "hand", "twice", "lose", "move", "home", "has", "write", "sleep", "nudge",
    "ledger", "asking", "answers", "owes", "settle",
)
NO_NUMBERS = (True, False, None, "", "0", "1", "ink", b"0", 0.0, 1.0, [], [0], (), (0,), {}, {0: 0}, object())
BEYOND = (-1, -2, -3, -TOP, -10 ** 5000, 7, 100, TOP, 10 ** 5000)
NO_CALLERS = (*NO_NUMBERS, *BEYOND, 3, 4)
NO_HOUSES = (*NO_NUMBERS, *BEYOND, 2, 3)
NO_KEYS = (
    "", "zzz", "INK", "Ink", "ink ", " ink", "in", "inkk", "inkpen", "i\u0144k", "k" * 9, b"ink",
    None, True, False, 0, 1, -1, TOP, 1.0, [], ["ink"], (), ("ink",), {}, {"ink": 0}, object(),
)
NO_WISHES = (None, (), ("get", 1), ["get"], ("set", True), ("add", TOP + 1), "get", 0, ("put", 1), ("set",))


def label(value):
    """A short name of a value; Python refuses to write out very long numbers."""
    if isinstance(value, int) and value.bit_length() > 200:
        return f"{'-' if value < 0 else ''}{value.bit_length()} bits"
    return repr(value)


class InterfaceTest(unittest.TestCase):
    def test_class_and_methods_are_defined_in_their_file(self):
        self.assertEqual(World.__module__, "movehouse.world")
        for name in METHODS:
            with self.subTest(name=name):
                self.assertIn(name, vars(World))

    def test_arguments_have_the_names_as_written(self):
        world = World(keys=["ink"], callers=1)
        self.assertEqual(world.call(caller=0, house=0, key="ink", wish=("get",)), 1)
        self.assertIsNone(world.again(caller=0, house=1))
        self.assertIsNone(world.twice(place=0))
        self.assertIsNone(world.hand(place=0))
        self.assertIsNone(world.lose(place=0))
        self.assertIsNone(world.write(house=0))
        self.assertIsNone(world.move(key="ink"))
        self.assertIsNone(world.home(key="ink"))
        self.assertIs(world.has(house=0, key="ink"), False)
        self.assertIsNone(world.sleep(house=0))
        self.assertIsNone(world.nudge(house=1))
        self.assertEqual(world.asking(caller=0), (1, "ink", ("get",)))
        self.assertEqual(world.answers(caller=0), [])
        self.assertEqual(world.owes(house=0), [])


class MadeTest(unittest.TestCase):
    def assert_refused(self, keys, callers):
        with self.assertRaises(BadWorld) as caught:
            World(keys, callers)
        self.assertIs(type(caught.exception), BadWorld)
        self.assertIsInstance(caught.exception, MoveError)

    def test_1_to_6_keys(self):
        for count in range(1, 7):
            keys = [sign * count for sign in "abcdef"[:count]]
            with self.subTest(keys=keys):
                world = World(keys, 1)
                self.assertEqual([world.home(key) for key in keys], [0] * count)
                self.assertEqual([world.has(1, key) for key in keys], [False] * count)

    def test_1_to_6_callers(self):
        for callers in range(1, 7):
            world = World(["ink"], callers)
            with self.subTest(callers=callers):
                self.assertEqual([world.answers(caller) for caller in range(callers)], [[]] * callers)
                self.assertEqual([world.asking(caller) for caller in range(callers)], [None] * callers)
                for caller in (callers, -1):
                    with self.assertRaises(NoCaller):
                        world.asking(caller)

    def test_keys_of_1_to_8_signs_from_a_to_z(self):
        for keys in (["a"], ["z"], ["a", "z", "az", "za"], ["abcdefgh"], ["zzzzzzzz"], ["a" * n for n in (1, 4, 7, 8)]):
            with self.subTest(keys=keys):
                self.assertEqual([World(keys, 1).home(key) for key in keys], [0] * len(keys))
        for start in range(0, 26, 6):
            keys = list("abcdefghijklmnopqrstuvwxyz"[start:start + 6])
            self.assertEqual([World(keys, 1).home(key) for key in keys], [0] * len(keys))

    def test_a_new_world_is_empty(self):
        world = World(["ink", "pen"], 2)
        self.assertEqual(told(world, ["ink", "pen"], 2), {
            "letters": [],
            "ledger": [],
            "asking": [None, None],
            "answers": [[], []],
            "owes": [[], []],
            "home": [0, 0],
            "has": [True, True, False, False],
        })

    def test_keys_that_are_no_list(self):
        for keys in (("ink",), ("ink", "pen"), (), "ink", "a", "", b"ink", None, True, False, 0, 1, 1.5,
                     {"ink": 1}, {}, {"ink"}, range(1), object(), iter(["ink"])):
            with self.subTest(keys=keys):
                self.assert_refused(keys, 1)

    def test_no_keys_and_too_many(self):
        self.assert_refused([], 1)
        self.assert_refused(list("abcdefg"), 1)
        self.assert_refused(["k" * n for n in range(1, 9)], 1)
        self.assert_refused(["a"] * 1000, 1)

    def test_a_key_twice(self):
        for keys in (["ink", "ink"], ["a", "b", "a"], list("abcdee"), ["a"] * 6):
            with self.subTest(keys=keys):
                self.assert_refused(keys, 1)

    def test_wrong_texts(self):
        wrong = (
            "", "a" * 9, "abcdefghi", "a" * 1000, "A", "Z", "inK", "INK", "1", "a1", "0", " ", "a ", " a", "a b",
            "a\n", "\n", "a\t", "a-b", "a_b", "_", ".", "`", "{", "@", "[", "a`", "a{", "\u00e4", "a\u00e4", "\u00df",
            "\u03b1", "\u0430", "\u0131", "\uff41", "\u00aa", "\u017f", "a\u0301", "\x00", "a\x00", "\ud800",
        )
        for text in wrong:
            for keys in ([text], ["ink", text], [text, "ink"], ["a", "b", text, "c"]):
                with self.subTest(keys=keys):
                    self.assert_refused(keys, 1)

    def test_keys_that_are_no_text(self):
        others = (None, True, False, 0, 1, -1, 1.0, b"a", b"ink", [], ["a"], (), ("a",), {}, {"a": 1}, {"a"}, object())
        for key in others:
            for keys in ([key], ["ink", key], [key, "ink"]):
                with self.subTest(keys=keys):
                    self.assert_refused(keys, 1)

    def test_wrong_counts_of_callers(self):
        numbers = (0, -1, -6, 7, 8, 100, TOP, -TOP, 10 ** 5000, -10 ** 5000)
        others = ("one", b"1", 2.0, 2.5, float("nan"), float("inf"), [1], (1,), {1: 1}, range(3))
        for callers in (*numbers, *others, *NO_NUMBERS):
            with self.subTest(callers=label(callers)):
                self.assert_refused(["ink"], callers)

    def test_both_wrong(self):
        self.assert_refused([], 0)
        self.assert_refused(None, None)
        self.assert_refused(["INK"], True)

    def test_the_list_of_keys_changed_later_changes_nothing(self):
        keys = ["pen", "ink"]
        world = World(keys, 1)
        keys.reverse()
        keys.append("map")
        with self.assertRaises(NoKey):
            world.home("map")
        world.move("ink")
        world.move("pen")
        self.assertEqual(world.owes(0), ["pen", "ink"])
        keys.clear()
        self.assertEqual(world.has(0, "ink"), False)
        self.assertEqual(world.owes(0), ["pen", "ink"])

    def test_the_list_of_keys_is_not_changed(self):
        for keys, callers in ((["pen", "ink"], 1), (["pen", "pen"], 1), (["pen", "ink"], 0)):
            before = list(keys)
            try:
                World(keys, callers).settle()
            except BadWorld:
                pass
            self.assertEqual(keys, before)

    def test_worlds_do_not_share_anything(self):
        keys = ["ink"]
        first, second = World(keys, 1), World(keys, 1)
        first.call(0, 0, "ink", ("add", 1))
        first.hand(0)
        first.write(0)
        self.assertEqual(told(second, keys, 1), told(World(keys, 1), keys, 1))


def made():
    """A world of three callers in which all sorts of things are under way; caller 1 alone is idle."""
    world = World(["ink", "pen", "map"], 3)
    for caller, key in ((0, "ink"), (1, "pen"), (2, "ink")):
        world.call(caller, 0, key, ("add", caller + 1))
    hand_all(world)
    world.write(0)
    hand_all(world)
    carry(world, "map")
    world.call(0, 0, "pen", ("set", 9))
    world.call(2, 1, "map", ("add", 4))
    world.move("ink")
    world.write(0)
    world.twice(0)
    world.twice(1)
    world.again(2, 0)
    world.write(1)
    return world


KEYS = ["ink", "pen", "map"]


def went_on(world):
    """What comes of a world when it goes on; what it tells on the way."""
    seen = [told(world, KEYS, 3)]
    seen.append(world.call(1, 1, "map", ("get",)))
    for house in (0, 1):
        world.nudge(house)
        seen.append(told(world, KEYS, 3))
    for house in (0, 1):
        world.write(house)
    world.sleep(0)
    seen.append(told(world, KEYS, 3))
    seen.append(world.settle())
    seen.extend(world.call(caller, 0, "ink", ("add", 1)) for caller in range(3))
    seen.append(world.settle())
    seen.append(told(world, KEYS, 3))
    return seen


class RefusedTest(unittest.TestCase):
    def setUp(self):
        self.world = made()
        self.before = told(self.world, KEYS, 3)
        self.untouched = went_on(copy.deepcopy(self.world))

    def assert_refused(self, error, name, *asked):
        with self.assertRaises(MoveError) as caught:
            getattr(self.world, name)(*asked)
        self.assertIs(type(caught.exception), error)
        self.assertEqual(told(self.world, KEYS, 3), self.before)

    def tearDown(self):
        """What was refused has changed nothing, not even what comes of the world later."""
        self.assertEqual(went_on(self.world), self.untouched)

    def test_the_world_of_these_tests_is_as_they_need_it(self):
        self.assertEqual([self.world.asking(caller) is None for caller in range(3)], [False, True, False])
        self.assertEqual([self.world.home(key) for key in KEYS], [None, 0, 1])
        self.assertGreaterEqual(len(self.world.letters()), 5)
        self.assertEqual(len(self.world.ledger()), 4)

    def test_callers_that_are_not_there(self):
        for caller in NO_CALLERS:
            with self.subTest(caller=label(caller)):
                self.assert_refused(NoCaller, "call", caller, 0, "pen", ("get",))
                self.assert_refused(NoCaller, "again", caller, 0)
                self.assert_refused(NoCaller, "asking", caller)
                self.assert_refused(NoCaller, "answers", caller)

    def test_houses_that_are_not_there(self):
        for house in NO_HOUSES:
            with self.subTest(house=label(house)):
                self.assert_refused(NoHouse, "call", 1, house, "pen", ("get",))
                self.assert_refused(NoHouse, "again", 0, house)
                self.assert_refused(NoHouse, "has", house, "pen")
                for name in ("write", "sleep", "nudge", "owes"):
                    self.assert_refused(NoHouse, name, house)

    def test_keys_that_are_not_there(self):
        for key in NO_KEYS:
            with self.subTest(key=key):
                self.assert_refused(NoKey, "call", 1, 0, key, ("get",))
                self.assert_refused(NoKey, "move", key)
                self.assert_refused(NoKey, "home", key)
                self.assert_refused(NoKey, "has", 0, key)
                self.assert_refused(NoKey, "has", 1, key)

    def test_places_that_are_not_there(self):
        lying = len(self.world.letters())
        for place in (*NO_NUMBERS, lying, lying + 1, lying + 100, TOP, 10 ** 5000, -1, -2, -lying, -lying - 1, -TOP):
            with self.subTest(place=label(place)):
                for name in ("hand", "twice", "lose"):
                    self.assert_refused(NoLetter, name, place)

    def test_what_is_no_wish(self):
        for wish in NO_WISHES:
            with self.subTest(wish=wish):
                self.assert_refused(BadWish, "call", 1, 0, "pen", wish)

    def test_a_caller_that_has_an_open_call(self):
        for caller in (0, 2):
            for house in (0, 1):
                for key in KEYS:
                    self.assert_refused(Busy, "call", caller, house, key, ("get",))

    def test_a_caller_that_has_none(self):
        for house in (0, 1):
            self.assert_refused(Idle, "again", 1, house)

    def test_a_key_that_is_here_in_none(self):
        self.assert_refused(NotHere, "move", "ink")

    def test_the_first_wrong_thing_of_a_call_is_told(self):
        callers = ((0, Busy), (9, NoCaller), (True, NoCaller), (None, NoCaller))
        houses = ((1, None), (9, NoHouse), (False, NoHouse), ("0", NoHouse))
        keys = (("pen", None), ("zzz", NoKey), (None, NoKey), ([], NoKey))
        wishes = ((("get",), None), (("put",), BadWish), (None, BadWish))
        for asked in itertools.product(callers, houses, keys, wishes):
            (caller, wrong), (house, no_house), (key, no_key), (wish, bad) = asked
            in_order = [wrong if wrong == NoCaller else None, no_house, no_key, bad, wrong]
            first = [error for error in in_order if error is not None][0]
            with self.subTest(caller=caller, house=house, key=key, wish=wish):
                self.assert_refused(first, "call", caller, house, key, wish)

    def test_the_first_wrong_thing_of_an_idle_callers_call_is_told(self):
        self.assert_refused(NoHouse, "call", 1, 2, "zzz", None)
        self.assert_refused(NoKey, "call", 1, 1, "zzz", None)
        self.assert_refused(BadWish, "call", 1, 1, "pen", None)

    def test_the_first_wrong_thing_of_the_others_is_told(self):
        self.assert_refused(NoCaller, "again", 3, 2)
        self.assert_refused(NoHouse, "again", 1, 2)
        self.assert_refused(NoHouse, "again", 0, True)
        self.assert_refused(NoHouse, "has", 2, "zzz")
        self.assert_refused(NoHouse, "has", None, None)


class EmptyPostTest(unittest.TestCase):
    def test_an_empty_post_has_no_places(self):
        world = World(["ink"], 1)
        for place in (0, 1, -1, None, True, False):
            for name in ("hand", "twice", "lose"):
                with self.subTest(place=place, name=name):
                    with self.assertRaises(NoLetter):
                        getattr(world, name)(place)

    def test_a_refused_call_takes_no_number(self):
        world = World(["ink"], 1)
        get = ("get",)
        for asked in ((1, 0, "ink", get), (0, 2, "ink", get), (0, 0, "pen", get), (0, 0, "ink", ("put",))):
            with self.assertRaises(MoveError):
                world.call(*asked)
        self.assertEqual(world.call(0, 0, "ink", ("get",)), 1)
        with self.assertRaises(Busy):
            world.call(0, 0, "ink", ("get",))
        world.settle()
        self.assertEqual(world.call(0, 0, "ink", ("get",)), 2)

    def test_busy_at_once_and_idle_behind_the_answer(self):
        world = World(["ink"], 1)
        with self.assertRaises(Idle):
            world.again(0, 0)
        world.call(0, 0, "ink", ("get",))
        world.hand(0)
        with self.assertRaises(Busy):
            world.call(0, 0, "ink", ("get",))
        world.write(0)
        with self.assertRaises(Busy):
            world.call(0, 0, "ink", ("get",))
        world.hand(0)
        with self.assertRaises(Idle):
            world.again(0, 0)
        self.assertEqual(world.call(0, 0, "ink", ("get",)), 2)


if __name__ == "__main__":
    unittest.main()
