"""Points 4 and 5 of the document, as movehouse.callers keeps them."""

import unittest

from movehouse import callers
from movehouse.callers import Caller

TOP = 10 ** 30


class InterfaceTest(unittest.TestCase):
    def test_class_and_methods_are_defined_in_their_file(self):
        self.assertEqual(Caller.__module__, "movehouse.callers")
        self.assertIs(callers.Caller, Caller)
        for name in ("begin", "letter", "came", "asking", "answers"):
            with self.subTest(name=name):
                self.assertIn(name, vars(Caller))

    def test_arguments_have_the_names_as_written(self):
        caller = Caller(number=2)
        self.assertEqual(caller.begin(key="ink", wish=("get",)), 1)
        self.assertEqual(caller.letter(house=1), ("call", 1, 2, 1, "ink", ("get",)))
        self.assertIsNone(caller.came(number=1, told=5))
        self.assertEqual(caller.answers(), [(1, 5)])


class BeginTest(unittest.TestCase):
    def test_calls_are_numbered_from_1(self):
        caller = Caller(0)
        for number in range(1, 8):
            with self.subTest(number=number):
                self.assertEqual(caller.begin("ink", ("get",)), number)
                caller.came(number, 0)

    def test_each_caller_counts_its_own_calls(self):
        first, second = Caller(0), Caller(1)
        self.assertEqual(first.begin("ink", ("get",)), 1)
        self.assertEqual(second.begin("ink", ("get",)), 1)
        first.came(1, 0)
        self.assertEqual(first.begin("ink", ("get",)), 2)
        self.assertEqual(second.asking(), (1, "ink", ("get",)))

    def test_the_key_does_not_count(self):
        caller = Caller(0)
        caller.begin("ink", ("get",))
        caller.came(1, 0)
        self.assertEqual(caller.begin("pen", ("get",)), 2)


class LetterTest(unittest.TestCase):
    def test_letter_is_the_told_tuple(self):
        caller = Caller(4)
        caller.begin("pen", ("add", -TOP))
        for house in (0, 1):
            with self.subTest(house=house):
                letter = caller.letter(house)
                self.assertIs(type(letter), tuple)
                self.assertEqual(letter, ("call", house, 4, 1, "pen", ("add", -TOP)))

    def test_letter_may_be_asked_for_again_and_changes_nothing(self):
        caller = Caller(0)
        caller.begin("pen", ("set", 3))
        for house in (1, 0, 1, 1, 0):
            self.assertEqual(caller.letter(house), ("call", house, 0, 1, "pen", ("set", 3)))
        self.assertEqual(caller.asking(), (1, "pen", ("set", 3)))
        self.assertEqual(caller.answers(), [])

    def test_letter_of_a_later_call(self):
        caller = Caller(5)
        caller.begin("pen", ("set", 3))
        caller.came(1, 0)
        caller.begin("ink", ("get",))
        self.assertEqual(caller.letter(0), ("call", 0, 5, 2, "ink", ("get",)))
        self.assertEqual(caller.letter(1), ("call", 1, 5, 2, "ink", ("get",)))


class CameTest(unittest.TestCase):
    def test_answer_with_the_open_calls_number_closes_it(self):
        caller = Caller(0)
        caller.begin("ink", ("get",))
        self.assertIsNone(caller.came(1, 7))
        self.assertIsNone(caller.asking())
        self.assertEqual(caller.answers(), [(1, 7)])

    def test_other_numbers_are_passed_over(self):
        caller = Caller(0)
        for number in (1, 2, 3):
            caller.begin("ink", ("add", number))
            if number < 3:
                caller.came(number, number)
        for number in (0, 1, 2, 4, 5, -3, 33, TOP):
            with self.subTest(number=number):
                self.assertIsNone(caller.came(number, 99))
                self.assertEqual(caller.asking(), (3, "ink", ("add", 3)))
                self.assertEqual(caller.answers(), [(1, 1), (2, 2)])
        caller.came(3, 6)
        self.assertEqual(caller.answers(), [(1, 1), (2, 2), (3, 6)])

    def test_answers_are_passed_over_where_no_call_is_open(self):
        caller = Caller(0)
        for number in (0, 1, 2):
            self.assertIsNone(caller.came(number, 5))
        self.assertIsNone(caller.asking())
        self.assertEqual(caller.answers(), [])
        self.assertEqual(caller.begin("ink", ("get",)), 1)
        self.assertEqual(caller.asking(), (1, "ink", ("get",)))

    def test_an_answer_that_comes_twice_counts_once(self):
        caller = Caller(0)
        caller.begin("ink", ("get",))
        caller.came(1, 7)
        caller.came(1, 8)
        self.assertEqual(caller.answers(), [(1, 7)])
        caller.begin("ink", ("get",))
        caller.came(1, 9)
        self.assertEqual(caller.answers(), [(1, 7)])
        self.assertEqual(caller.asking(), (2, "ink", ("get",)))

    def test_what_it_told_is_kept_whole(self):
        for told in (0, -1, TOP, -TOP, 7 * TOP, 10 ** 500):
            with self.subTest(digits=told.bit_length(), below=told < 0):
                caller = Caller(0)
                caller.begin("ink", ("get",))
                caller.came(1, told)
                self.assertEqual(caller.answers(), [(1, told)])


class AskingTest(unittest.TestCase):
    def test_none_at_first_and_behind_an_answer(self):
        caller = Caller(3)
        self.assertIsNone(caller.asking())
        caller.begin("ink", ("get",))
        caller.came(1, 0)
        self.assertIsNone(caller.asking())

    def test_tells_the_open_call_as_a_tuple(self):
        caller = Caller(3)
        caller.begin("ink", ("set", 4))
        self.assertIs(type(caller.asking()), tuple)
        self.assertEqual(caller.asking(), (1, "ink", ("set", 4)))
        caller.came(1, 0)
        caller.begin("pen", ("get",))
        self.assertEqual(caller.asking(), (2, "pen", ("get",)))


class AnswersTest(unittest.TestCase):
    def test_pairs_in_order(self):
        caller = Caller(1)
        self.assertEqual(caller.answers(), [])
        for number, told in ((1, 9), (2, -4), (3, 9), (4, 0)):
            caller.begin("ink", ("get",))
            caller.came(number, told)
        answers = caller.answers()
        self.assertIs(type(answers), list)
        self.assertEqual(answers, [(1, 9), (2, -4), (3, 9), (4, 0)])
        self.assertTrue(all(type(pair) is tuple for pair in answers))

    def test_the_open_call_is_not_among_them(self):
        caller = Caller(1)
        caller.begin("ink", ("get",))
        self.assertEqual(caller.answers(), [])

    def test_the_list_is_the_askers_own(self):
        caller = Caller(1)
        caller.answers().append((1, 1))
        self.assertEqual(caller.answers(), [])
        caller.begin("ink", ("get",))
        caller.came(1, 5)
        first = caller.answers()
        first.clear()
        self.assertEqual(caller.answers(), [(1, 5)])

    def test_a_list_that_was_given_stays_as_it_was(self):
        caller = Caller(1)
        before = caller.answers()
        caller.begin("ink", ("get",))
        caller.came(1, 5)
        self.assertEqual(before, [])


if __name__ == "__main__":
    unittest.main()
