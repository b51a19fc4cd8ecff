"""Points 6 to 12 of the document, as movehouse.houses keeps them."""

import unittest

from movehouse.errors import MoveError, NotHere
from movehouse.houses import House

TOP = 10 ** 30
KEYS = ["pen", "ink", "map"]


def call(house, caller, number, wish, key="ink"):
    return ("call", house, caller, number, key, wish)


def parcel(house, turn, amount=0, marks=(), key="ink"):
    return ("parcel", house, key, turn, amount, marks)


def taken(house, turn, key="ink"):
    return ("taken", house, key, turn)


def answer(caller, number, told):
    return ("answer", caller, number, told)


class HouseTest(unittest.TestCase):
    """With the checks that the tests below share."""

    def assert_writes(self, house, letters, rows):
        pair = house.write()
        self.assertIs(type(pair), tuple)
        self.assertEqual([type(part) for part in pair], [list, list])
        self.assertEqual(pair, (letters, rows))

    def assert_knows(self, house, turn, amount, marks, key="ink"):
        """The key is here with these; told by the parcel with which it would go."""
        self.assertTrue(house.has(key))
        house.write()
        house.move(key)
        other = 0 if house.number == 1 else 1
        self.assert_writes(house, [parcel(other, turn + 1, amount, marks, key)], [])

    def assert_quiet(self, house):
        self.assert_writes(house, [], [])


class InterfaceTest(HouseTest):
    def test_class_and_methods_are_defined_in_their_file(self):
        self.assertEqual(House.__module__, "movehouse.houses")
        for name in ("has", "owes", "came", "move", "write", "sleep", "nudge"):
            with self.subTest(name=name):
                self.assertIn(name, vars(House))

    def test_arguments_have_the_names_as_written(self):
        house = House(number=0, keys=["ink"])
        self.assertIs(house.has(key="ink"), True)
        self.assertIsNone(house.came(letter=call(0, 0, 1, ("get",))))
        self.assertIsNone(house.move(key="ink"))
        self.assertIsNone(house.sleep())


class AtFirstTest(HouseTest):
    def test_all_keys_are_here_in_house_0_and_gone_in_house_1(self):
        for number, here in ((0, True), (1, False)):
            house = House(number, KEYS)
            for key in KEYS:
                with self.subTest(number=number, key=key):
                    self.assertIs(house.has(key), here)
            self.assertEqual(house.owes(), [])
            self.assertEqual(house.nudge(), [])
            self.assert_quiet(house)

    def test_house_0_knows_turn_0_amount_0_and_no_marks(self):
        for key in KEYS:
            with self.subTest(key=key):
                self.assert_knows(House(0, KEYS), 0, 0, (), key)

    def test_house_1_knows_turn_less_1(self):
        for turn, here in ((-2, False), (-1, False), (0, True), (1, True)):
            with self.subTest(turn=turn):
                house = House(1, KEYS)
                house.came(parcel(1, turn, 5))
                self.assertIs(house.has("ink"), here)
                self.assertEqual([house.has("pen"), house.has("map")], [False, False])

    def test_the_list_of_keys_changed_later_changes_nothing(self):
        keys = ["pen", "ink"]
        house = House(0, keys)
        keys.reverse()
        keys.append("map")
        house.move("ink")
        house.move("pen")
        self.assertEqual(house.owes(), ["pen", "ink"])
        self.assertEqual(keys, ["ink", "pen", "map"])

    def test_the_list_of_keys_is_not_changed(self):
        keys = list(KEYS)
        house = House(0, keys)
        house.move("map")
        house.owes().clear()
        self.assertEqual(keys, KEYS)


class CallTest(HouseTest):
    def test_a_wish_is_done_and_answered(self):
        for wish, told, amount in ((("get",), 0, 0), (("set", 8), 0, 8), (("add", 8), 8, 8)):
            with self.subTest(wish=wish):
                house = House(0, KEYS)
                self.assertIsNone(house.came(call(0, 2, 1, wish)))
                self.assert_writes(house, [answer(2, 1, told)], [(2, 1, "ink", wish, told)])
                self.assert_knows(house, 0, amount, ((2, 1, told),))

    def test_wishes_are_done_in_the_order_in_which_they_come(self):
        house = House(0, KEYS)
        house.came(call(0, 1, 1, ("set", 5)))
        house.came(call(0, 0, 1, ("add", -7)))
        house.came(call(0, 1, 2, ("get",)))
        house.came(call(0, 0, 2, ("add", TOP)))
        self.assert_writes(
            house,
            [answer(1, 1, 0), answer(0, 1, -2), answer(1, 2, -2), answer(0, 2, TOP - 2)],
            [
                (1, 1, "ink", ("set", 5), 0),
                (0, 1, "ink", ("add", -7), -2),
                (1, 2, "ink", ("get",), -2),
                (0, 2, "ink", ("add", TOP), TOP - 2),
            ],
        )

    def test_the_same_number_is_answered_again_and_done_once(self):
        house = House(0, KEYS)
        for _ in range(3):
            house.came(call(0, 3, 1, ("add", 4)))
        self.assert_writes(house, [answer(3, 1, 4)] * 3, [(3, 1, "ink", ("add", 4), 4)])
        house.came(call(0, 3, 1, ("add", 4)))
        self.assert_writes(house, [answer(3, 1, 4)], [])
        self.assert_knows(house, 0, 4, ((3, 1, 4),))

    def test_the_same_number_tells_what_the_mark_tells_not_what_holds_now(self):
        house = House(0, KEYS)
        house.came(call(0, 0, 1, ("get",)))
        house.came(call(0, 1, 1, ("set", 50)))
        house.came(call(0, 0, 1, ("get",)))
        self.assert_writes(
            house,
            [answer(0, 1, 0), answer(1, 1, 0), answer(0, 1, 0)],
            [(0, 1, "ink", ("get",), 0), (1, 1, "ink", ("set", 50), 0)],
        )

    def test_a_lesser_number_is_passed_over(self):
        house = House(0, KEYS)
        house.came(call(0, 0, 5, ("add", 1)))
        house.write()
        for number in (4, 3, 1, 0):
            with self.subTest(number=number):
                house.came(call(0, 0, number, ("add", 100)))
                self.assert_quiet(house)
        self.assert_knows(house, 0, 1, ((0, 5, 1),))

    def test_the_next_and_a_much_greater_number_are_done(self):
        for number in (2, 3, 1000, TOP):
            with self.subTest(number=number):
                house = House(0, KEYS)
                house.came(call(0, 0, 1, ("add", 1)))
                house.came(call(0, 0, number, ("add", 10)))
                self.assert_writes(
                    house,
                    [answer(0, 1, 1), answer(0, number, 11)],
                    [(0, 1, "ink", ("add", 1), 1), (0, number, "ink", ("add", 10), 11)],
                )
                self.assert_knows(house, 0, 11, ((0, number, 11),))

    def test_the_first_call_with_a_key_may_have_any_number(self):
        house = House(0, KEYS)
        house.came(call(0, 4, 77, ("add", 1)))
        self.assert_writes(house, [answer(4, 77, 1)], [(4, 77, "ink", ("add", 1), 1)])

    def test_other_callers_numbers_do_not_count(self):
        house = House(0, KEYS)
        house.came(call(0, 1, 9, ("add", 1)))
        house.came(call(0, 0, 1, ("add", 1)))
        house.came(call(0, 2, 3, ("add", 1)))
        house.came(call(0, 1, 3, ("add", 1)))
        house.came(call(0, 0, 9, ("add", 1)))
        self.assertEqual(house.write()[0], [answer(1, 9, 1), answer(0, 1, 2), answer(2, 3, 3), answer(0, 9, 4)])
        self.assert_knows(house, 0, 4, ((0, 9, 4), (1, 9, 1), (2, 3, 3)))

    def test_each_key_has_its_own_number_and_marks(self):
        house = House(0, KEYS)
        house.came(call(0, 0, 2, ("add", 5), "pen"))
        house.came(call(0, 0, 1, ("add", 7), "ink"))
        house.came(call(0, 0, 1, ("add", 9), "pen"))
        house.came(call(0, 0, 3, ("get",), "map"))
        self.assert_writes(
            house,
            [answer(0, 2, 5), answer(0, 1, 7), answer(0, 3, 0)],
            [(0, 2, "pen", ("add", 5), 5), (0, 1, "ink", ("add", 7), 7), (0, 3, "map", ("get",), 0)],
        )
        self.assert_knows(house, 0, 5, ((0, 2, 5),), "pen")
        self.assert_knows(house, 0, 7, ((0, 1, 7),), "ink")
        self.assert_knows(house, 0, 0, ((0, 3, 0),), "map")

    def test_marks_rise_by_caller_whatever_the_order_of_the_calls(self):
        for order in ((0, 1, 2, 3, 4, 5), (5, 4, 3, 2, 1, 0), (3, 0, 5, 1, 4, 2), (2, 2, 0, 5, 0, 1, 3, 4)):
            with self.subTest(order=order):
                house = House(0, KEYS)
                marks = {}
                for at, caller in enumerate(order):
                    house.came(call(0, caller, at + 1, ("add", 10)))
                    marks[caller] = (caller, at + 1, 10 * (at + 1))
                self.assert_knows(house, 0, 10 * len(order), tuple(marks[caller] for caller in sorted(marks)))

    def test_a_call_for_a_key_that_is_gone_is_passed_over(self):
        house = House(1, KEYS)
        house.came(call(1, 0, 1, ("add", 1)))
        self.assert_quiet(house)

    def test_a_call_for_a_key_that_is_owed_is_passed_over(self):
        house = House(0, KEYS)
        house.came(call(0, 0, 1, ("add", 1)))
        house.move("ink")
        house.write()
        for number in (1, 2):
            house.came(call(0, 0, number, ("add", 1)))
            house.came(call(0, 1, number, ("add", 1)))
        self.assert_quiet(house)
        self.assertEqual(house.nudge(), [parcel(1, 1, 1, ((0, 1, 1),))])

    def test_a_key_that_is_not_here_does_not_hold_up_the_others(self):
        house = House(0, KEYS)
        house.move("ink")
        house.write()
        house.came(call(0, 0, 1, ("add", 1), "ink"))
        house.came(call(0, 0, 1, ("add", 1), "map"))
        self.assert_writes(house, [answer(0, 1, 1)], [(0, 1, "map", ("add", 1), 1)])

    def test_marks_that_came_with_a_parcel_count(self):
        house = House(1, KEYS)
        house.came(parcel(1, 1, 6, ((0, 4, 2), (3, 2, 6))))
        house.write()
        house.came(call(1, 0, 4, ("add", 1)))
        house.came(call(1, 0, 3, ("add", 1)))
        house.came(call(1, 3, 1, ("add", 1)))
        house.came(call(1, 3, 3, ("add", 1)))
        house.came(call(1, 1, 1, ("add", 1)))
        self.assert_writes(
            house,
            [answer(0, 4, 2), answer(3, 3, 7), answer(1, 1, 8)],
            [(3, 3, "ink", ("add", 1), 7), (1, 1, "ink", ("add", 1), 8)],
        )
        self.assert_knows(house, 1, 8, ((0, 4, 2), (1, 1, 8), (3, 3, 7)))


class MoveTest(HouseTest):
    def test_a_key_that_is_here_is_owed_from_then_on(self):
        house = House(0, KEYS)
        house.came(call(0, 1, 2, ("set", 9)))
        house.write()
        self.assertIsNone(house.move("ink"))
        self.assertIs(house.has("ink"), False)
        self.assertEqual(house.owes(), ["ink"])
        self.assertEqual([house.has("pen"), house.has("map")], [True, True])
        self.assert_writes(house, [parcel(1, 1, 9, ((1, 2, 0),))], [])
        self.assertEqual(house.owes(), ["ink"])

    def test_the_parcel_goes_to_the_other_house_with_the_next_turn(self):
        for number, other in ((0, 1), (1, 0)):
            for turn in (1, 2, 8, TOP):
                with self.subTest(number=number, turn=turn):
                    house = House(number, KEYS)
                    house.came(parcel(number, turn, 3, ((0, 1, 3),)))
                    house.write()
                    house.move("ink")
                    self.assert_writes(house, [parcel(other, turn + 1, 3, ((0, 1, 3),))], [])

    def assert_refused(self, house, key):
        with self.assertRaises(NotHere) as caught:
            house.move(key)
        self.assertIs(type(caught.exception), NotHere)
        self.assertIsInstance(caught.exception, MoveError)

    def test_a_key_that_is_owed_is_refused_and_nothing_changes(self):
        house = House(0, KEYS)
        house.move("ink")
        self.assert_refused(house, "ink")
        self.assertEqual(house.owes(), ["ink"])
        self.assert_writes(house, [parcel(1, 1)], [])
        self.assert_refused(house, "ink")
        self.assert_quiet(house)
        self.assertEqual(house.nudge(), [parcel(1, 1)])

    def test_a_key_that_is_gone_is_refused_and_nothing_changes(self):
        for house in (House(1, KEYS), House(0, KEYS)):
            if house.has("ink"):
                house.move("ink")
                house.write()
                house.came(taken(0, 1))
            with self.subTest(number=house.number):
                self.assert_refused(house, "ink")
                self.assertEqual(house.owes(), [])
                self.assert_quiet(house)

    def test_several_keys_are_owed_in_the_keys_order(self):
        house = House(0, KEYS)
        for key in ("map", "pen", "ink"):
            house.move(key)
        self.assertEqual(house.owes(), ["pen", "ink", "map"])
        self.assert_writes(house, [parcel(1, 1, key=key) for key in ("map", "pen", "ink")], [])
        house.came(taken(0, 1, "ink"))
        self.assertEqual(house.owes(), ["pen", "map"])

    def test_the_list_of_owed_keys_is_the_askers_own(self):
        house = House(0, KEYS)
        house.move("ink")
        house.owes().append("pen")
        house.owes().remove("ink")
        self.assertEqual(house.owes(), ["ink"])
        self.assertIs(type(house.owes()), list)


class ParcelTest(HouseTest):
    def test_a_greater_turn_brings_the_key_here(self):
        marks = ((1, 4, 5), (2, 1, 12))
        for number in (0, 1):
            for turn in (1, 2, 50):
                with self.subTest(number=number, turn=turn):
                    house = House(number, KEYS)
                    self.assertIsNone(house.came(parcel(number, turn, 12, marks)))
                    self.assertIs(house.has("ink"), True)
                    self.assert_writes(house, [taken(1 - number, turn)], [])
                    self.assert_knows(house, turn, 12, marks)

    def test_the_same_and_a_lesser_turn_change_nothing_where_it_is_here(self):
        for turn in (4, 3, 1, 0, -1, -5):
            with self.subTest(turn=turn):
                house = House(1, KEYS)
                house.came(parcel(1, 4, 12, ((0, 1, 12),)))
                house.write()
                house.came(parcel(1, turn, 99, ((0, 9, 99),)))
                self.assert_writes(house, [taken(0, turn)], [])
                self.assert_knows(house, 4, 12, ((0, 1, 12),))

    def test_the_same_and_a_lesser_turn_change_nothing_where_it_is_owed(self):
        for turn in (4, 3, -1):
            with self.subTest(turn=turn):
                house = House(1, KEYS)
                house.came(parcel(1, 4, 12))
                house.move("ink")
                house.write()
                house.came(parcel(1, turn, 99))
                self.assertIs(house.has("ink"), False)
                self.assertEqual(house.owes(), ["ink"])
                self.assert_writes(house, [taken(0, turn)], [])
                self.assertEqual(house.nudge(), [parcel(0, 5, 12)])

    def test_the_same_and_a_lesser_turn_change_nothing_where_it_is_gone(self):
        for turn in (0, -1):
            with self.subTest(turn=turn):
                house = House(0, KEYS)
                house.move("ink")
                house.write()
                house.came(taken(0, 1))
                house.came(parcel(0, turn, 99))
                self.assertIs(house.has("ink"), False)
                self.assertEqual(house.owes(), [])
                self.assert_writes(house, [taken(1, turn)], [])

    def test_a_greater_turn_comes_in_where_the_key_is_owed_or_gone_with_a_turn(self):
        for gone in (False, True):
            for turn in (1, 2, 3):
                with self.subTest(gone=gone, turn=turn):
                    house = House(0, KEYS)
                    house.move("ink")
                    house.write()
                    if gone:
                        house.came(taken(0, 1))
                    house.came(parcel(0, turn, 8, ((0, 1, 8),)))
                    self.assertEqual(house.owes(), [])
                    self.assert_writes(house, [taken(1, turn)], [])
                    self.assert_knows(house, turn, 8, ((0, 1, 8),))

    def test_a_greater_turn_comes_in_where_the_key_is_here(self):
        house = House(0, KEYS)
        house.came(parcel(0, 1, 8, ((5, 2, 8),)))
        self.assert_writes(house, [taken(1, 1)], [])
        self.assert_knows(house, 1, 8, ((5, 2, 8),))

    def test_twice_the_same_parcel_lays_out_two_taken_letters(self):
        house = House(1, KEYS)
        house.came(parcel(1, 1, 8))
        house.came(call(1, 0, 1, ("add", 1)))
        house.came(parcel(1, 1, 8))
        self.assert_writes(house, [taken(0, 1), answer(0, 1, 9), taken(0, 1)], [(0, 1, "ink", ("add", 1), 9)])
        self.assert_knows(house, 1, 9, ((0, 1, 9),))

    def test_other_keys_stay_as_they_are(self):
        house = House(1, KEYS)
        house.came(parcel(1, 1, 8))
        self.assertEqual([house.has(key) for key in KEYS], [False, True, False])


class TakenTest(HouseTest):
    def owing(self, turn=0):
        house = House(0, KEYS)
        if turn > 0:
            house.came(parcel(0, turn, 6))
        house.move("ink")
        house.write()
        return house

    def test_the_owed_parcels_turn_lets_the_key_go(self):
        for turn in (0, 2, 8):
            with self.subTest(turn=turn):
                house = self.owing(turn)
                self.assertIsNone(house.came(taken(0, turn + 1)))
                self.assertEqual(house.owes(), [])
                self.assertIs(house.has("ink"), False)
                self.assert_quiet(house)
                self.assertEqual(house.nudge(), [])

    def test_the_turn_stays_the_one_that_the_house_knew(self):
        for turn, here in ((3, False), (4, False), (5, True)):
            with self.subTest(turn=turn):
                house = self.owing(4)
                house.came(taken(0, 5))
                house.came(parcel(0, turn))
                self.assertIs(house.has("ink"), here)

    def test_other_turns_are_passed_over(self):
        for turn in (4, 3, 6, 7, 1, 0, -1, 50):
            with self.subTest(turn=turn):
                house = self.owing(4)
                house.came(taken(0, turn))
                self.assertEqual(house.owes(), ["ink"])
                self.assert_quiet(house)
                self.assertEqual(house.nudge(), [parcel(1, 5, 6)])

    def test_passed_over_where_the_key_is_here(self):
        for turn in (0, 1, 2):
            with self.subTest(turn=turn):
                house = House(0, KEYS)
                house.came(call(0, 0, 1, ("set", 3)))
                house.came(taken(0, turn))
                self.assert_knows(house, 0, 3, ((0, 1, 0),))

    def test_passed_over_where_the_key_is_gone(self):
        for turn in (-1, 0, 1):
            with self.subTest(turn=turn):
                house = House(1, KEYS)
                house.came(taken(1, turn))
                self.assertIs(house.has("ink"), False)
                self.assertEqual(house.owes(), [])
                self.assert_quiet(house)
                house.came(parcel(1, 0))
                self.assertIs(house.has("ink"), True)

    def test_lets_go_of_that_key_alone(self):
        house = self.owing()
        house.move("map")
        house.write()
        house.came(taken(0, 1, "pen"))
        house.came(taken(0, 1, "map"))
        self.assertEqual(house.owes(), ["ink"])
        self.assertEqual([house.has(key) for key in KEYS], [True, False, False])


class WriteTest(HouseTest):
    def test_letters_and_rows_come_once_and_the_second_writing_is_empty(self):
        house = House(0, KEYS)
        house.came(call(0, 1, 1, ("set", 5), "pen"))
        house.came(parcel(0, 0, 1))
        house.move("map")
        house.came(call(0, 0, 1, ("add", 2)))
        house.came(call(0, 1, 1, ("set", 5), "pen"))
        self.assert_writes(
            house,
            [answer(1, 1, 0), taken(1, 0), parcel(1, 1, key="map"), answer(0, 1, 2), answer(1, 1, 0)],
            [(1, 1, "pen", ("set", 5), 0), (0, 1, "ink", ("add", 2), 2)],
        )
        self.assert_quiet(house)
        self.assert_quiet(house)

    def test_a_writing_gives_what_came_since_the_last_one(self):
        house = House(0, KEYS)
        for number in range(1, 5):
            house.came(call(0, 0, number, ("add", 1)))
            self.assert_writes(house, [answer(0, number, number)], [(0, number, "ink", ("add", 1), number)])

    def test_rows_and_letters_are_tuples(self):
        house = House(0, KEYS)
        house.came(call(0, 0, 1, ("add", 1)))
        house.came(parcel(0, 0))
        house.move("ink")
        letters, rows = house.write()
        for row in letters + rows + house.nudge():
            self.assertIs(type(row), tuple)
        marks = letters[2][5]
        self.assertIs(type(marks), tuple)
        self.assertTrue(all(type(mark) is tuple for mark in marks))

    def test_the_lists_are_the_askers_own(self):
        house = House(0, KEYS)
        letters, rows = house.write()
        letters.append(answer(0, 1, 1))
        rows.append((0, 1, "ink", ("add", 1), 1))
        self.assert_quiet(house)
        house.came(call(0, 0, 1, ("add", 1)))
        first, rows = house.write()
        house.came(call(0, 0, 2, ("add", 1)))
        self.assertEqual(first, [answer(0, 1, 1)])
        self.assertEqual(rows, [(0, 1, "ink", ("add", 1), 1)])
        first.clear()
        rows.clear()
        self.assert_writes(house, [answer(0, 2, 2)], [(0, 2, "ink", ("add", 1), 2)])


class SleepTest(HouseTest):
    def test_ahead_of_the_first_writing(self):
        for number in (0, 1):
            with self.subTest(number=number):
                house = House(number, KEYS)
                house.came(parcel(number, 3, 8, ((0, 1, 8),)))
                house.came(call(number, 0, 2, ("add", 1)))
                house.move("ink")
                self.assertIsNone(house.sleep())
                self.assertEqual([house.has(key) for key in KEYS], [number == 0] * 3)
                self.assertEqual(house.owes(), [])
                self.assert_quiet(house)
                house.came(parcel(number, 0, 7))
                self.assertIs(house.has("ink"), True)
                self.assert_knows(house, 0, 0 if number == 0 else 7, ())

    def test_forgets_wishes_done_and_letters_laid_out_since(self):
        house = House(0, KEYS)
        house.came(call(0, 0, 1, ("set", 5)))
        house.write()
        house.came(call(0, 0, 2, ("add", 1)))
        house.came(call(0, 1, 1, ("add", 1), "pen"))
        house.came(parcel(0, 0))
        house.sleep()
        self.assert_quiet(house)
        house.came(call(0, 0, 2, ("add", 1)))
        self.assert_writes(house, [answer(0, 2, 6)], [(0, 2, "ink", ("add", 1), 6)])
        self.assert_knows(house, 0, 0, (), "pen")

    def test_forgets_a_move(self):
        house = House(0, KEYS)
        house.came(call(0, 0, 1, ("set", 5)))
        house.write()
        house.move("ink")
        house.sleep()
        self.assertEqual(house.owes(), [])
        self.assert_quiet(house)
        self.assert_knows(house, 0, 5, ((0, 1, 0),))

    def test_forgets_a_parcel_that_came(self):
        house = House(1, KEYS)
        house.came(parcel(1, 1, 5))
        house.sleep()
        self.assertIs(house.has("ink"), False)
        self.assert_quiet(house)
        house.came(parcel(1, 1, 5))
        self.assert_writes(house, [taken(0, 1)], [])
        house.sleep()
        self.assert_knows(house, 1, 5, ())

    def test_forgets_a_taken_letter_that_came(self):
        house = House(0, KEYS)
        house.move("ink")
        house.write()
        house.came(taken(0, 1))
        house.sleep()
        self.assertEqual(house.owes(), ["ink"])
        house.came(taken(0, 1))
        house.write()
        house.sleep()
        self.assertEqual(house.owes(), [])

    def test_knows_what_it_wrote_last_not_what_it_wrote_earlier(self):
        house = House(0, KEYS)
        for number in (1, 2, 3):
            house.came(call(0, 0, number, ("add", 1)))
            house.write()
        house.came(call(0, 0, 4, ("add", 1)))
        house.sleep()
        self.assert_knows(house, 0, 3, ((0, 3, 3),))

    def test_asleep_twice_it_knows_the_same(self):
        house = House(0, KEYS)
        house.came(call(0, 0, 1, ("add", 1)))
        house.write()
        for _ in range(3):
            house.came(call(0, 0, 2, ("add", 1)))
            house.sleep()
        house.sleep()
        self.assert_quiet(house)
        self.assert_knows(house, 0, 1, ((0, 1, 1),))

    def test_what_is_done_behind_a_sleep_is_no_part_of_what_is_written_down(self):
        house = House(0, KEYS)
        house.sleep()
        house.came(call(0, 0, 1, ("add", 1)))
        house.move("pen")
        house.sleep()
        self.assertEqual(house.owes(), [])
        self.assert_knows(house, 0, 0, ())

    def test_a_writing_with_nothing_laid_out_counts(self):
        house = House(0, KEYS)
        house.move("ink")
        house.write()
        house.came(taken(0, 1))
        self.assert_quiet(house)
        house.sleep()
        self.assertEqual(house.owes(), [])


class NudgeTest(HouseTest):
    def test_owed_parcels_are_posted_once_more_and_again(self):
        house = House(0, KEYS)
        house.came(call(0, 1, 3, ("set", 4)))
        house.move("ink")
        house.write()
        for _ in range(3):
            self.assertEqual(house.nudge(), [parcel(1, 1, 4, ((1, 3, 0),))])
        self.assertIs(type(house.nudge()), list)
        self.assert_quiet(house)
        self.assertEqual(house.owes(), ["ink"])

    def test_in_the_order_of_the_keys(self):
        house = House(0, KEYS)
        for key, n in (("map", 1), ("ink", 2), ("pen", 3)):
            house.came(call(0, 0, n, ("set", n), key))
            house.move(key)
        house.write()
        self.assertEqual(
            house.nudge(),
            [
                parcel(1, 1, 3, ((0, 3, 0),), "pen"),
                parcel(1, 1, 2, ((0, 2, 0),), "ink"),
                parcel(1, 1, 1, ((0, 1, 0),), "map"),
            ],
        )

    def test_from_house_1_to_house_0(self):
        house = House(1, KEYS)
        house.came(parcel(1, 7, 2, ((0, 1, 2),)))
        house.move("ink")
        house.write()
        self.assertEqual(house.nudge(), [parcel(0, 8, 2, ((0, 1, 2),))])

    def test_a_move_that_is_not_written_down_is_not_nudged(self):
        house = House(0, KEYS)
        house.move("ink")
        self.assertEqual(house.nudge(), [])
        house.write()
        house.move("map")
        self.assertEqual(house.nudge(), [parcel(1, 1)])

    def test_a_taken_letter_that_is_not_written_down_does_not_count(self):
        house = House(0, KEYS)
        house.move("ink")
        house.write()
        house.came(taken(0, 1))
        self.assertEqual(house.owes(), [])
        self.assertEqual(house.nudge(), [parcel(1, 1)])
        house.write()
        self.assertEqual(house.nudge(), [])

    def test_a_key_that_came_back_is_nudged_by_what_is_written_down(self):
        house = House(0, KEYS)
        house.came(call(0, 0, 1, ("set", 5)))
        house.move("ink")
        house.write()
        house.came(parcel(0, 2, 70, ((0, 2, 70),)))
        self.assertIs(house.has("ink"), True)
        self.assertEqual(house.nudge(), [parcel(1, 1, 5, ((0, 1, 0),))])
        house.move("ink")
        self.assertEqual(house.nudge(), [parcel(1, 1, 5, ((0, 1, 0),))])
        house.write()
        self.assertEqual(house.nudge(), [parcel(1, 3, 70, ((0, 2, 70),))])

    def test_behind_a_sleep(self):
        house = House(0, KEYS)
        house.move("ink")
        house.write()
        house.came(taken(0, 1))
        house.sleep()
        self.assertEqual(house.nudge(), [parcel(1, 1)])

    def test_changes_nothing(self):
        house = House(0, KEYS)
        house.move("ink")
        house.write()
        house.came(call(0, 0, 1, ("add", 1), "pen"))
        house.nudge().clear()
        self.assertEqual(house.nudge(), [parcel(1, 1)])
        self.assert_writes(house, [answer(0, 1, 1)], [(0, 1, "pen", ("add", 1), 1)])


if __name__ == "__main__":
    unittest.main()
