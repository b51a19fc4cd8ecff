"""Point 15 of the document: when a world is settled, and how it is brought there."""

import copy
import unittest

from movehouse.world import World
from support import carry, flush, hand_all, runs, told


def add(n):
    return ("add", n)


def is_settled(world, callers):
    return not any(world.asking(caller) for caller in range(callers)) and not world.owes(0) and not world.owes(1)


def settle_by_hand(world, callers):
    """The rounds of point 15, deed by deed; how many it took."""
    rounds = 0
    while not is_settled(world, callers):
        rounds += 1
        for deed in (world.write, world.nudge):
            deed(0)
            deed(1)
        for caller in range(callers):
            if world.asking(caller) is not None:
                world.again(caller, 0)
                world.again(caller, 1)
        hand_all(world)
    return rounds


class SettledAlreadyTest(unittest.TestCase):
    def assert_takes_no_round(self, world, keys, callers):
        before = told(world, keys, callers)
        twin = copy.deepcopy(world)
        self.assertEqual(world.settle(), 0)
        self.assertEqual(told(world, keys, callers), before)
        for house in (0, 1):
            world.write(house)
            twin.write(house)
        self.assertEqual(told(world, keys, callers), told(twin, keys, callers))

    def test_a_new_world(self):
        self.assert_takes_no_round(World(["ink"], 2), ["ink"], 2)

    def test_with_letters_that_lie_in_the_post_or_are_laid_out(self):
        world = World(["ink", "pen"], 1)
        world.call(0, 0, "ink", add(1))
        world.again(0, 1)
        world.again(0, 0)
        world.hand(0)
        world.write(0)
        world.hand(2)
        world.hand(1)
        self.assertEqual(len(world.letters()), 1)
        self.assert_takes_no_round(world, ["ink", "pen"], 1)

    def test_with_a_key_that_moved(self):
        world = World(["ink", "pen"], 1)
        carry(world, "pen")
        self.assert_takes_no_round(world, ["ink", "pen"], 1)

    def test_owed_by_what_is_known_not_by_what_is_written_down(self):
        world = World(["ink"], 1)
        world.move("ink")
        world.write(0)
        world.hand(0)
        world.write(1)
        world.hand(0)
        world.nudge(0)
        self.assertEqual(len(world.letters()), 1)
        self.assert_takes_no_round(world, ["ink"], 1)


class RoundsTest(unittest.TestCase):
    def test_a_call_alone_takes_two_rounds(self):
        for house in (0, 1):
            world = World(["ink"], 1)
            world.call(0, house, "ink", add(1))
            world.lose(0)
            self.assertEqual(world.settle(), 2)
            self.assertEqual(world.answers(0), [(1, 1)])
            self.assertEqual(world.ledger(), [(0, 1, "ink", add(1), 1)])

    def test_an_answer_that_is_under_way_takes_one_round(self):
        world = World(["ink"], 1)
        world.call(0, 0, "ink", add(1))
        world.hand(0)
        self.assertEqual(world.settle(), 1)
        self.assertEqual(world.answers(0), [(1, 1)])

    def test_a_move_that_is_not_written_down_takes_two_rounds(self):
        world = World(["ink"], 1)
        world.move("ink")
        self.assertEqual(world.settle(), 2)
        self.assertEqual([world.home("ink"), world.owes(0), world.owes(1)], [1, [], []])

    def test_a_parcel_that_was_lost_is_nudged(self):
        world = World(["ink"], 1)
        world.move("ink")
        world.write(0)
        world.lose(0)
        self.assertEqual(world.settle(), 2)
        self.assertEqual(world.home("ink"), 1)

    def test_a_taken_letter_that_is_laid_out_takes_one_round(self):
        world = World(["ink"], 1)
        world.move("ink")
        world.write(0)
        world.hand(0)
        self.assertEqual(world.settle(), 1)
        self.assertEqual([world.home("ink"), world.owes(0)], [1, []])

    def test_both_houses_owe_the_same_key(self):
        world = World(["ink"], 1)
        world.move("ink")
        world.write(0)
        world.hand(0)
        world.move("ink")
        world.write(1)
        world.lose(0)
        world.lose(0)
        world.call(0, 1, "ink", add(3))
        self.assertEqual([world.owes(0), world.owes(1)], [["ink"], ["ink"]])
        self.assertEqual(world.settle(), 2)
        self.assertEqual([world.home("ink"), world.owes(0), world.owes(1)], [0, [], []])
        self.assertEqual(world.answers(0), [(1, 3)])

    def test_the_post_is_empty_behind_a_round(self):
        world = World(["ink", "pen"], 3)
        for caller in range(3):
            world.call(caller, 1, "ink", add(1))
        world.move("pen")
        world.settle()
        self.assertEqual(world.letters(), [])

    def test_a_round_again_behind_a_sleep(self):
        world = World(["ink"], 1)
        world.move("ink")
        world.settle()
        world.sleep(0)
        self.assertEqual(world.owes(0), ["ink"])
        self.assertIn(world.settle(), (1, 2))
        self.assertEqual([world.home("ink"), world.owes(0)], [1, []])


class OrderTest(unittest.TestCase):
    def test_letters_that_lie_there_are_handed_ahead(self):
        world = World(["ink"], 3)
        for caller in (2, 0, 1):
            world.call(caller, 0, "ink", add(1))
        world.lose(1)
        self.assertEqual(world.settle(), 2)
        self.assertEqual([row[0] for row in world.ledger()], [2, 1, 0])

    def test_open_calls_are_posted_caller_by_caller(self):
        world = World(["ink", "pen"], 4)
        carry(world, "pen")
        for caller in (3, 1, 0, 2):
            world.call(caller, 0, ["ink", "pen"][caller % 2], add(1))
            world.lose(0)
        self.assertEqual(world.settle(), 2)
        self.assertEqual([row[0] for row in world.ledger()], [0, 2, 1, 3])

    def test_house_0_writes_ahead_of_house_1(self):
        world = World(["ink", "pen"], 2)
        carry(world, "ink")
        world.call(0, 1, "ink", add(1))
        world.call(1, 0, "pen", add(1))
        hand_all(world)
        self.assertEqual(world.settle(), 1)
        self.assertEqual([row[0] for row in world.ledger()], [1, 0])

    def test_parcels_are_nudged_ahead_of_the_calls(self):
        world = World(["ink"], 1)
        world.move("ink")
        world.write(0)
        world.lose(0)
        world.call(0, 0, "ink", add(1))
        world.lose(0)
        self.assertEqual(world.settle(), 2)
        self.assertEqual(world.answers(0), [(1, 1)])

    def test_both_write_ahead_of_the_nudges(self):
        world = World(["ink"], 1)
        world.move("ink")
        self.assertEqual(world.settle(), 2)
        world.write(1)
        # Round 1 brings the parcel of the writing and of the nudge, round 2 that of the nudge alone.
        self.assertEqual(world.letters(), [("taken", 0, "ink", 1)])
        world = World(["ink"], 1)
        world.move("ink")
        world.write(0)
        world.hand(0)
        self.assertEqual(world.settle(), 1)
        world.write(1)
        self.assertEqual(world.letters(), [("taken", 0, "ink", 1)])

    def test_each_round_goes_as_told_from_whatever_stands(self):
        for start, world, keys, callers, deeds in runs(60, 120):
            for at, (name, asked) in enumerate(deeds):
                getattr(world, name)(*asked)
                if at % 10 != 9:
                    continue
                mine, twin = copy.deepcopy(world), copy.deepcopy(world)
                self.assertEqual(mine.settle(), settle_by_hand(twin, callers), (start, at))
                self.assertEqual(told(mine, keys, callers), told(twin, keys, callers), (start, at))
                for house in (0, 1):
                    mine.write(house)
                    twin.write(house)
                self.assertEqual(told(mine, keys, callers), told(twin, keys, callers), (start, at))


class FromWhateverStandsTest(unittest.TestCase):
    def assert_settles(self, world, keys, callers, begun, why):
        already = is_settled(world, callers)
        rounds = world.settle()
        self.assertIn(rounds, (0,) if already else (1, 2), why)
        self.assertTrue(is_settled(world, callers), why)
        for key in keys:
            self.assertEqual([world.has(0, key), world.has(1, key)].count(True), 1, why)
        self.assertEqual(sorted(row[:2] for row in world.ledger()), sorted(begun), why)
        before = told(world, keys, callers)
        self.assertEqual(world.settle(), 0, why)
        self.assertEqual(told(world, keys, callers), before, why)
        return rounds

    def test_at_most_two_rounds_and_all_is_done_once(self):
        seen = set()
        for start, world, keys, callers, deeds in runs(90, 200):
            begun = []
            for at, (name, asked) in enumerate(deeds):
                back = getattr(world, name)(*asked)
                if name == "call":
                    begun.append((asked[0], back))
                if at % 7 == 6:
                    seen.add(self.assert_settles(copy.deepcopy(world), keys, callers, begun, (start, at)))
                if at % 61 == 60:
                    # Some runs go on from a settled world.
                    self.assert_settles(world, keys, callers, begun, (start, at))
        self.assertEqual(seen, {0, 1, 2})

    def test_a_settled_world_goes_on(self):
        world = World(["ink", "pen"], 2)
        total = 0
        for number in range(1, 20):
            self.assertEqual(world.call(number % 2, number % 2, "ink", add(number)), (number + 1) // 2)
            if number % 3 == 0:
                world.move("ink")
            if number % 4 == 0:
                world.write(0)
                world.sleep(1)
            self.assertEqual(world.settle(), 2)
            total += number
            self.assertEqual(world.answers(number % 2)[-1], ((number + 1) // 2, total))
        flush(world)
        self.assertEqual(len(world.ledger()), 19)
        self.assertEqual(world.letters(), [])


if __name__ == "__main__":
    unittest.main()
