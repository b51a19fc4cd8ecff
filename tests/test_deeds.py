"""Points 4 to 13 of the document, as movehouse.world brings them together."""

import unittest

from movehouse.errors import NotHere
from movehouse.world import World
from support import carry, flush, hand_all

TOP = 10 ** 30
GET = ("get",)


def call(house, caller, number, key, wish):
    return ("call", house, caller, number, key, wish)


def add(n):
    return ("add", n)


class PostTest(unittest.TestCase):
    def five(self):
        """A world with five call letters in the post, and what they are."""
        world = World(["ink"], 5)
        for caller in range(5):
            world.call(caller, caller % 2, "ink", add(10 ** caller))
        return world, [call(caller % 2, caller, 1, "ink", add(10 ** caller)) for caller in range(5)]

    def test_letters_lie_in_the_order_in_which_they_were_posted(self):
        world, lying = self.five()
        self.assertEqual(world.letters(), lying)
        world.again(1, 0)
        world.again(0, 1)
        lying += [call(0, 1, 1, "ink", add(10)), call(1, 0, 1, "ink", add(1))]
        self.assertEqual(world.letters(), lying)
        world.hand(0)
        world.hand(1)
        self.assertEqual(world.letters(), [lying[1], *lying[3:]])
        world.write(0)
        world.move("ink")
        world.write(0)
        answers = [("answer", 0, 1, 1), ("answer", 2, 1, 101)]
        parcel = ("parcel", 1, "ink", 1, 101, ((0, 1, 1), (2, 1, 101)))
        self.assertEqual(world.letters(), [lying[1], *lying[3:], *answers, parcel])
        world.nudge(0)
        self.assertEqual(world.letters(), [lying[1], *lying[3:], *answers, parcel, parcel])

    def test_hand_at_the_first_a_middle_and_the_last_place(self):
        for place, told in ((0, [1]), (2, [100]), (4, [10000])):
            with self.subTest(place=place):
                world, lying = self.five()
                self.assertIsNone(world.hand(place))
                self.assertEqual(world.letters(), lying[:place] + lying[place + 1:])
                world.write(0)
                self.assertEqual([row[4] for row in world.ledger()], told)

    def test_twice_at_the_first_a_middle_and_the_last_place(self):
        for place, told in ((0, 1), (2, 100), (4, 10000)):
            with self.subTest(place=place):
                world, lying = self.five()
                self.assertIsNone(world.twice(place))
                self.assertEqual(world.letters(), lying)
                world.twice(place)
                self.assertEqual(world.letters(), lying)
                world.write(0)
                self.assertEqual(world.ledger(), [(place, 1, "ink", add(told), told)])
                self.assertEqual(world.letters(), lying + [("answer", place, 1, told)] * 2)

    def test_lose_at_the_first_a_middle_and_the_last_place(self):
        for place in (0, 2, 4):
            with self.subTest(place=place):
                world, lying = self.five()
                self.assertIsNone(world.lose(place))
                self.assertEqual(world.letters(), lying[:place] + lying[place + 1:])
                world.write(0)
                self.assertEqual(world.ledger(), [])

    def test_equal_letters_are_taken_from_their_own_place(self):
        world = World(["ink"], 2)
        world.call(0, 0, "ink", add(1))
        world.call(1, 0, "ink", add(10))
        world.again(0, 0)
        first, second = call(0, 0, 1, "ink", add(1)), call(0, 1, 1, "ink", add(10))
        world.lose(2)
        self.assertEqual(world.letters(), [first, second])
        world.again(0, 0)
        world.hand(2)
        self.assertEqual(world.letters(), [first, second])

    def test_letters_are_tuples_of_the_four_sorts(self):
        world = World(["ink"], 1)
        world.call(0, 1, "ink", ("set", -TOP))
        self.assertEqual(world.letters(), [("call", 1, 0, 1, "ink", ("set", -TOP))])
        world.again(0, 0)
        world.hand(1)
        world.write(0)
        world.hand(0)
        self.assertEqual(world.letters(), [("answer", 0, 1, 0)])
        world.move("ink")
        world.write(0)
        self.assertEqual(world.letters()[1:], [("parcel", 1, "ink", 1, -TOP, ((0, 1, 0),))])
        world.hand(1)
        world.write(1)
        self.assertEqual(world.letters()[1:], [("taken", 0, "ink", 1)])
        self.assertTrue(all(type(letter) is tuple for letter in world.letters()))


class CallTest(unittest.TestCase):
    def test_a_call_is_answered(self):
        world = World(["ink", "pen"], 2)
        self.assertEqual(world.call(1, 0, "pen", add(5)), 1)
        self.assertEqual(world.asking(1), (1, "pen", add(5)))
        self.assertIsNone(world.asking(0))
        world.hand(0)
        self.assertEqual(world.letters(), [])
        self.assertEqual(world.ledger(), [])
        world.write(0)
        self.assertEqual(world.ledger(), [(1, 1, "pen", add(5), 5)])
        self.assertEqual(world.answers(1), [])
        world.hand(0)
        self.assertIsNone(world.asking(1))
        self.assertEqual(world.answers(1), [(1, 5)])
        self.assertEqual(world.answers(0), [])

    def test_numbers_go_on_over_keys_and_houses(self):
        world = World(["ink", "pen"], 1)
        for number in range(1, 6):
            self.assertEqual(world.call(0, number % 2, ["ink", "pen"][number % 2], GET), number)
            self.assertEqual(world.settle(), 2)
        self.assertEqual(world.answers(0), [(number, 0) for number in range(1, 6)])

    def test_a_call_letter_that_comes_to_the_house_without_the_key(self):
        world = World(["ink"], 1)
        world.call(0, 1, "ink", add(5))
        world.hand(0)
        world.write(1)
        self.assertEqual(world.letters(), [])
        self.assertEqual(world.ledger(), [])
        self.assertEqual(world.asking(0), (1, "ink", add(5)))
        self.assertIsNone(world.again(0, 0))
        world.hand(0)
        world.write(0)
        self.assertEqual(world.letters(), [("answer", 0, 1, 5)])

    def test_a_call_letter_that_comes_late_is_not_done_again(self):
        world = World(["ink"], 1)
        world.call(0, 0, "ink", add(5))
        world.twice(0)
        world.write(0)
        world.hand(1)
        world.call(0, 0, "ink", add(1))
        world.hand(1)
        world.hand(0)
        world.write(0)
        self.assertEqual(world.ledger(), [(0, 1, "ink", add(5), 5), (0, 2, "ink", add(1), 6)])
        self.assertEqual(world.letters(), [("answer", 0, 2, 6)])

    def test_a_call_that_was_done_in_one_house_is_answered_again_by_the_other(self):
        world = World(["ink"], 2)
        world.call(0, 0, "ink", add(5))
        world.hand(0)
        world.write(0)
        world.lose(0)
        world.call(1, 0, "ink", add(20))
        world.hand(0)
        world.write(0)
        world.hand(0)
        carry(world, "ink")
        self.assertEqual(world.home("ink"), 1)
        world.again(0, 1)
        world.hand(0)
        world.write(1)
        self.assertEqual(world.letters(), [("answer", 0, 1, 5)])
        self.assertEqual(world.ledger(), [(0, 1, "ink", add(5), 5), (1, 1, "ink", add(20), 25)])

    def test_answers_that_come_late_and_twice_are_passed_over(self):
        world = World(["ink"], 1)
        world.call(0, 0, "ink", add(5))
        world.hand(0)
        world.write(0)
        world.twice(0)
        world.twice(0)
        world.call(0, 0, "ink", add(1))
        world.hand(0)
        self.assertEqual(world.asking(0), (2, "ink", add(1)))
        self.assertEqual(world.answers(0), [(1, 5)])

    def test_an_answer_goes_to_its_caller_alone(self):
        world = World(["ink"], 3)
        for caller in range(3):
            world.call(caller, 0, "ink", add(1))
        hand_all(world)
        world.write(0)
        world.hand(1)
        self.assertEqual([world.asking(caller) is None for caller in range(3)], [False, True, False])
        self.assertEqual([world.answers(caller) for caller in range(3)], [[], [(1, 2)], []])


class MoveTest(unittest.TestCase):
    def test_a_key_moves_there_and_back(self):
        world = World(["ink", "pen"], 1)
        world.call(0, 0, "ink", add(5))
        flush(world)
        for turn, home in ((1, 1), (2, 0), (3, 1)):
            with self.subTest(turn=turn):
                away = 1 - home
                self.assertIsNone(world.move("ink"))
                self.assertIsNone(world.home("ink"))
                self.assertEqual(world.owes(away), ["ink"])
                self.assertEqual(world.letters(), [])
                world.write(away)
                self.assertEqual(world.letters(), [("parcel", home, "ink", turn, 5, ((0, 1, 5),))])
                world.hand(0)
                self.assertEqual(world.home("ink"), home)
                self.assertEqual([world.has(house, "ink") for house in (away, home)], [False, True])
                world.write(home)
                self.assertEqual(world.letters(), [("taken", away, "ink", turn)])
                world.hand(0)
                self.assertEqual(world.owes(away), [])
                self.assertEqual(world.home("pen"), 0)

    def test_a_key_under_way_is_refused(self):
        world = World(["ink"], 1)
        world.move("ink")
        for step in (lambda: None, lambda: world.write(0)):
            step()
            with self.assertRaises(NotHere):
                world.move("ink")
        self.assertEqual(world.letters(), [("parcel", 1, "ink", 1, 0, ())])
        self.assertEqual(world.owes(0), ["ink"])

    def test_a_key_that_came_moves_on_before_it_is_written_down(self):
        world = World(["ink"], 1)
        world.move("ink")
        world.write(0)
        world.hand(0)
        world.move("ink")
        self.assertEqual([world.owes(0), world.owes(1)], [["ink"], ["ink"]])
        world.write(1)
        self.assertEqual(world.letters(), [("taken", 0, "ink", 1), ("parcel", 0, "ink", 2, 0, ())])
        world.hand(1)
        self.assertEqual(world.home("ink"), 0)
        world.hand(0)
        self.assertEqual(world.home("ink"), 0)

    def test_a_parcel_that_comes_twice_and_late_brings_nothing_back(self):
        world = World(["ink"], 1)
        world.move("ink")
        world.write(0)
        world.twice(0)
        world.call(0, 1, "ink", add(5))
        world.hand(1)
        world.twice(0)
        world.write(1)
        self.assertEqual(
            world.letters()[1:],
            [("taken", 0, "ink", 1), ("answer", 0, 1, 5), ("taken", 0, "ink", 1)],
        )
        while len(world.letters()) > 1:
            world.hand(1)
        world.move("ink")
        world.write(1)
        world.hand(0)
        self.assertIsNone(world.home("ink"))
        self.assertEqual([world.owes(0), world.owes(1)], [[], ["ink"]])

    def test_a_parcel_that_comes_after_the_key_came_back(self):
        world = World(["ink"], 1)
        world.move("ink")
        world.write(0)
        world.twice(0)
        world.write(1)
        world.hand(1)
        world.move("ink")
        world.write(1)
        world.hand(1)
        world.write(0)
        world.hand(1)
        self.assertEqual([world.home("ink"), world.owes(0), world.owes(1)], [0, [], []])
        self.assertEqual(world.letters(), [("parcel", 1, "ink", 1, 0, ())])
        world.hand(0)
        self.assertEqual([world.home("ink"), world.has(1, "ink")], [0, False])
        world.write(1)
        self.assertEqual(world.letters(), [("taken", 0, "ink", 1)])
        world.hand(0)
        self.assertEqual(world.home("ink"), 0)

    def test_an_old_taken_letter_does_not_let_go_of_a_newer_parcel(self):
        world = World(["ink"], 1)
        world.move("ink")
        world.write(0)
        world.hand(0)
        world.write(1)
        world.twice(0)
        world.move("ink")
        world.write(1)
        world.hand(1)
        world.move("ink")
        world.write(0)
        self.assertEqual(world.letters()[0], ("taken", 0, "ink", 1))
        world.hand(0)
        self.assertEqual(world.owes(0), ["ink"])

    def test_keys_move_apart(self):
        world = World(["ink", "pen", "map"], 1)
        world.move("map")
        world.move("ink")
        self.assertEqual(world.owes(0), ["ink", "map"])
        self.assertEqual([world.home(key) for key in ("ink", "pen", "map")], [None, 0, None])
        world.write(0)
        self.assertEqual([letter[2] for letter in world.letters()], ["map", "ink"])
        world.hand(1)
        self.assertEqual([world.home(key) for key in ("ink", "pen", "map")], [1, 0, None])


class WriteAndSleepTest(unittest.TestCase):
    def test_a_house_that_sleeps_between_doing_and_writing(self):
        world = World(["ink"], 1)
        world.call(0, 0, "ink", add(5))
        world.twice(0)
        self.assertIsNone(world.sleep(0))
        world.write(0)
        self.assertEqual(world.ledger(), [])
        self.assertEqual(world.letters(), [call(0, 0, 1, "ink", add(5))])
        world.hand(0)
        world.write(0)
        self.assertEqual(world.ledger(), [(0, 1, "ink", add(5), 5)])
        self.assertEqual(world.letters(), [("answer", 0, 1, 5)])

    def test_a_house_that_sleeps_behind_a_writing(self):
        world = World(["ink"], 1)
        world.call(0, 0, "ink", add(5))
        world.twice(0)
        self.assertIsNone(world.write(0))
        world.sleep(0)
        world.hand(0)
        world.write(0)
        self.assertEqual(world.ledger(), [(0, 1, "ink", add(5), 5)])
        self.assertEqual(world.letters(), [("answer", 0, 1, 5)] * 2)

    def test_a_house_that_sleeps_behind_a_move(self):
        world = World(["ink"], 1)
        world.move("ink")
        world.sleep(0)
        self.assertEqual(world.home("ink"), 0)
        world.write(0)
        world.nudge(0)
        self.assertEqual(world.letters(), [])
        world.move("ink")
        world.write(0)
        world.sleep(0)
        self.assertIsNone(world.home("ink"))
        self.assertEqual(world.owes(0), ["ink"])

    def test_a_house_that_sleeps_behind_a_parcel_takes_it_again(self):
        world = World(["ink"], 1)
        world.call(0, 0, "ink", add(5))
        flush(world)
        world.move("ink")
        world.write(0)
        world.hand(0)
        self.assertEqual(world.home("ink"), 1)
        world.call(0, 1, "ink", add(1))
        world.hand(0)
        world.sleep(1)
        self.assertIsNone(world.home("ink"))
        self.assertEqual(world.owes(0), ["ink"])
        self.assertIsNone(world.nudge(0))
        world.again(0, 1)
        hand_all(world)
        world.write(1)
        self.assertEqual(world.letters(), [("taken", 0, "ink", 1), ("answer", 0, 2, 6)])
        self.assertEqual(world.ledger()[1:], [(0, 2, "ink", add(1), 6)])

    def test_the_other_house_goes_on(self):
        world = World(["ink", "pen"], 2)
        carry(world, "pen")
        world.call(0, 0, "ink", add(5))
        world.call(1, 1, "pen", add(7))
        hand_all(world)
        world.sleep(0)
        world.write(0)
        self.assertEqual(world.ledger(), [])
        world.write(1)
        self.assertEqual(world.ledger(), [(1, 1, "pen", add(7), 7)])
        world.sleep(1)
        self.assertEqual(world.letters(), [("answer", 1, 1, 7)])

    def test_a_nudge_posts_an_owed_parcel_again(self):
        world = World(["ink", "pen"], 1)
        world.move("pen")
        world.move("ink")
        world.nudge(0)
        self.assertEqual(world.letters(), [])
        world.write(0)
        world.lose(0)
        world.lose(0)
        world.nudge(1)
        self.assertEqual(world.letters(), [])
        for _ in range(2):
            world.nudge(0)
        parcels = [("parcel", 1, "ink", 1, 0, ()), ("parcel", 1, "pen", 1, 0, ())]
        self.assertEqual(world.letters(), parcels * 2)
        hand_all(world)
        self.assertEqual([world.home("ink"), world.home("pen")], [1, 1])

    def test_a_nudge_leaves_what_is_laid_out(self):
        world = World(["ink", "pen"], 1)
        world.move("ink")
        world.write(0)
        world.call(0, 0, "pen", add(1))
        world.hand(1)
        world.lose(0)
        world.nudge(0)
        self.assertEqual(world.letters(), [("parcel", 1, "ink", 1, 0, ())])
        self.assertEqual(world.ledger(), [])
        world.write(0)
        self.assertEqual(world.letters()[1:], [("answer", 0, 1, 1)])


class LedgerTest(unittest.TestCase):
    def test_rows_come_in_the_order_of_the_writings(self):
        world = World(["ink", "pen"], 4)
        carry(world, "pen")
        for caller, key in enumerate(["pen", "ink", "pen", "ink"]):
            world.call(caller, 0 if key == "ink" else 1, key, add(caller))
        hand_all(world)
        world.write(0)
        world.write(1)
        ledger = world.ledger()
        self.assertIs(type(ledger), list)
        self.assertEqual(ledger, [
            (1, 1, "ink", add(1), 1),
            (3, 1, "ink", add(3), 4),
            (0, 1, "pen", add(0), 0),
            (2, 1, "pen", add(2), 2),
        ])
        self.assertTrue(all(type(row) is tuple for row in ledger))


class OwnListsTest(unittest.TestCase):
    def test_lists_given_back_are_the_askers_own(self):
        world = World(["ink", "pen"], 1)
        world.call(0, 0, "ink", add(1))
        world.settle()
        world.call(0, 0, "ink", add(1))
        world.move("pen")
        asked = (world.letters, world.ledger, lambda: world.answers(0), lambda: world.owes(0), lambda: world.owes(1))
        for ask in asked:
            before = list(ask())
            self.assertIs(type(ask()), list)
            ask().append("pen")
            ask().clear()
            self.assertEqual(ask(), before)

    def test_lists_given_back_stay_as_they_were(self):
        world = World(["ink", "pen"], 1)
        seen = [world.letters(), world.ledger(), world.answers(0), world.owes(0)]
        world.call(0, 0, "ink", add(1))
        world.hand(0)
        world.write(0)
        world.twice(0)
        world.move("pen")
        self.assertEqual(seen, [[], [], [], []])
        now = [world.letters(), world.ledger(), world.answers(0), world.owes(0)]
        self.assertEqual([len(rows) for rows in now], [1, 1, 1, 1])


if __name__ == "__main__":
    unittest.main()
