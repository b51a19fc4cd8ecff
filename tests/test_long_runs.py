"""Point 14 of the document: what holds whatever is done, in whatever order, over long runs of deeds."""

import copy
import random
import unittest

from movehouse.desk import played
from movehouse.errors import MoveError
from movehouse.world import World
from support import runs, told


class Watch:
    """Looks at a world behind each deed, and remembers what the deeds before it left."""

    def __init__(self, test, world, keys, callers):
        self.test = test
        self.world = world
        self.keys = keys
        self.callers = callers
        self.ledger = []
        self.places = {}
        self.begun = {}
        self.answers = [[] for _ in range(callers)]
        self.closed_rows = 0

    def do(self, name, asked):
        back = getattr(self.world, name)(*asked)
        if name == "call":
            self.note_call(asked, back)
        else:
            self.test.assertIsNone(back)
        self.look_at_keys()
        self.look_at_ledger()
        self.look_at_answers()

    def note_call(self, asked, number):
        caller, _, key, wish = asked
        self.test.assertEqual(number, 1 + sum(1 for some, _ in self.begun if some == caller))
        # The rows of the calls that are closed now stand ahead of this place; this call's row may not.
        self.begun[caller, number] = (key, wish, self.closed_rows)
        self.test.assertEqual(self.world.asking(caller), (number, key, wish))

    def look_at_keys(self):
        owed = [self.world.owes(house) for house in (0, 1)]
        for key in self.keys:
            here = [house for house in (0, 1) if self.world.has(house, key)]
            self.test.assertLessEqual(len(here), 1)
            self.test.assertEqual(self.world.home(key), here[0] if here else None)
            if not here:
                self.test.assertTrue(key in owed[0] or key in owed[1])
            for house in here:
                self.test.assertNotIn(key, owed[house])
        for keys in owed:
            self.test.assertEqual(keys, [key for key in self.keys if key in keys])

    def look_at_ledger(self):
        ledger = self.world.ledger()
        known = len(self.ledger)
        self.test.assertEqual(ledger[:known], self.ledger)
        if len(ledger) == known:
            return
        for place, (caller, number, key, wish, _) in enumerate(ledger[known:], known):
            self.test.assertNotIn((caller, number), self.places)
            self.places[caller, number] = place
            begun_key, begun_wish, ahead = self.begun[caller, number]
            self.test.assertEqual((key, wish), (begun_key, begun_wish))
            self.test.assertGreaterEqual(place, ahead)
        self.ledger = ledger
        tells = played(self.keys, [(row[2], row[3]) for row in ledger])
        self.test.assertEqual(tells, [row[4] for row in ledger])

    def look_at_answers(self):
        for caller in range(self.callers):
            answers = self.world.answers(caller)
            known = len(self.answers[caller])
            self.test.assertEqual(answers[:known], self.answers[caller])
            for number, tells in answers[known:]:
                place = self.places[caller, number]
                self.test.assertEqual(self.ledger[place][4], tells)
                self.closed_rows = max(self.closed_rows, place + 1)
            self.answers[caller] = answers
            self.test.assertEqual([number for number, _ in answers], list(range(1, len(answers) + 1)))
            calls = sum(1 for some, _ in self.begun if some == caller)
            self.test.assertEqual(self.world.asking(caller) is not None, calls == len(answers) + 1)


class LongRunsTest(unittest.TestCase):
    def test_what_holds_holds_behind_each_deed(self):
        rows, homes = 0, set()
        for start, world, keys, callers, deeds in runs(100, 700):
            watch = Watch(self, world, keys, callers)
            for at, (name, asked) in enumerate(deeds):
                with self.subTest(start=start, at=at, name=name):
                    watch.do(name, asked)
            rows += len(watch.ledger)
            homes |= {world.home(key) for key in keys}
        # The runs are worth something only where calls are done and keys move.
        self.assertGreater(rows, 2000)
        self.assertEqual(homes, {0, 1, None})

    def test_the_same_deeds_tell_the_same(self):
        for start, world, keys, callers, deeds in runs(12, 200):
            done = []
            for name, asked in deeds:
                done.append((name, asked))
                getattr(world, name)(*asked)
            twin = World(list(keys), callers)
            for name, asked in done:
                getattr(twin, name)(*asked)
            self.assertEqual(told(world, keys, callers), told(twin, keys, callers), start)

    def test_asking_changes_nothing(self):
        for start, world, keys, callers, deeds in runs(12, 200):
            twin = copy.deepcopy(world)
            for name, asked in deeds:
                getattr(world, name)(*asked)
                getattr(twin, name)(*asked)
                told(world, keys, callers)
            self.assertEqual(told(world, keys, callers), told(twin, keys, callers), start)

    def test_what_is_refused_changes_nothing(self):
        kinds = set()
        for start, world, keys, callers, deeds in runs(24, 250):
            twin = copy.deepcopy(world)
            chance = random.Random(-1 - start)
            for name, asked in deeds:
                getattr(world, name)(*asked)
                getattr(twin, name)(*asked)
                kinds.add(self.refused(chance, world, keys, callers))
            self.assertEqual(told(world, keys, callers), told(twin, keys, callers), start)
            self.assertEqual([world.settle(), world.settle()], [twin.settle(), 0], start)
            self.assertEqual(told(world, keys, callers), told(twin, keys, callers), start)
        self.assertLessEqual(
            {"NoCaller", "NoHouse", "NoKey", "BadWish", "Busy", "Idle", "NotHere", "NoLetter"}, kinds,
        )

    def refused(self, chance, world, keys, callers):
        """Ask for something that may be wrong of a world; the kind of refusal, or None where nothing was asked."""
        caller, house = chance.choice([0, callers - 1, callers]), chance.choice([0, 1, 2])
        key, wish = chance.choice([*keys, "none"]), chance.choice([("get",), ("add", True)])
        deeds = {
            "call": (caller, house, key, wish),
            "again": (caller, house),
            "hand": (len(world.letters()),),
            "move": (key,),
            "sleep": (2,),
        }
        name = chance.choice(list(deeds))
        twin = copy.deepcopy(world)
        try:
            getattr(twin, name)(*deeds[name])
        except MoveError as wrong:
            with self.assertRaises(type(wrong)):
                getattr(world, name)(*deeds[name])
            return type(wrong).__name__
        return None


if __name__ == "__main__":
    unittest.main()
