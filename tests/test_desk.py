"""Points 1, 2 and 3 of the document, as movehouse.desk keeps them."""

import copy
import unittest

from movehouse import desk
from movehouse.desk import done, need_wish, played
from movehouse.errors import BadWish, MoveError

TOP = 10 ** 30
BEYOND = (TOP + 1, -TOP - 1, 10 ** 31, -10 ** 31, 10 ** 5000, -10 ** 5000)
AMOUNTS = (0, 1, -1, 7, -7, TOP, -TOP, TOP + 1, -TOP - 1, 10 ** 60, -10 ** 60)
NUMBERS = (0, 1, -1, 2, -2, 41, -41, TOP - 1, 1 - TOP, TOP, -TOP)


def nested(depth):
    """A tuple within a tuple, and so on; deeper than Python can write out."""
    inner = ("get",)
    for _ in range(depth):
        inner = (inner,)
    return inner


class InterfaceTest(unittest.TestCase):
    def test_each_function_is_defined_in_its_file(self):
        for function in (desk.need_wish, desk.done, desk.played):
            with self.subTest(function=function.__name__):
                self.assertEqual(function.__module__, "movehouse.desk")

    def test_arguments_have_the_names_as_written(self):
        self.assertIsNone(need_wish(wish=("get",)))
        self.assertEqual(done(amount=3, wish=("add", 4)), (7, 7))
        self.assertEqual(played(keys=["a"], rows=[("a", ("add", 4))]), [4])


class NeedWishTest(unittest.TestCase):
    def assert_refused(self, wish):
        with self.assertRaises(BadWish) as caught:
            need_wish(wish)
        self.assertIs(type(caught.exception), BadWish)
        self.assertIsInstance(caught.exception, MoveError)

    def test_takes_get(self):
        self.assertIsNone(need_wish(("get",)))

    def test_takes_set_and_add(self):
        for word in ("set", "add"):
            for n in NUMBERS:
                with self.subTest(word=word, n=n):
                    self.assertIsNone(need_wish((word, n)))

    def test_takes_a_word_that_was_put_together(self):
        self.assertIsNone(need_wish(("".join(["g", "e", "t"]),)))
        self.assertIsNone(need_wish(("".join(["s", "e", "t"]), 1)))
        self.assertIsNone(need_wish(("".join(["a", "d", "d"]), 1)))

    def test_refuses_numbers_beyond_either_end(self):
        for word in ("set", "add"):
            for n in BEYOND:
                with self.subTest(word=word, bits=n.bit_length(), below=n < 0):
                    self.assert_refused((word, n))

    def test_refuses_true_and_false_as_numbers(self):
        for word in ("set", "add"):
            for n in (True, False):
                with self.subTest(word=word, n=n):
                    self.assert_refused((word, n))

    def test_refuses_what_is_no_number(self):
        others = (None, "", "1", "get", b"1", (), (1,), [1], {}, {1: 1}, 1.0, 0.0, float("nan"), float("inf"), 1j)
        for word in ("set", "add"):
            for n in others:
                with self.subTest(word=word, n=n):
                    self.assert_refused((word, n))

    def test_refuses_tuples_of_a_wrong_length(self):
        wrong = (
            (),
            ("set",),
            ("add",),
            ("get", 0),
            ("get", None),
            ("get", "get"),
            ("get", 1, 2),
            ("set", 1, 2),
            ("add", 1, 2),
            ("set", 1, None),
            ("add", 1, ()),
            ("get",) * 4,
        )
        for wish in wrong:
            with self.subTest(wish=wish):
                self.assert_refused(wish)

    def test_refuses_another_first_word(self):
        words = ("", "put", "ge", "gett", "se", "sets", "ad", "adds", "sub", "getset", "e", "g", "n")
        for word in words:
            with self.subTest(word=word):
                self.assert_refused((word,))
                self.assert_refused((word, 1))

    def test_refuses_the_word_in_other_letters(self):
        for word in ("GET", "Get", "get ", " get", "get\n", "g\u0435t"):
            with self.subTest(word=word):
                self.assert_refused((word,))
        for word in ("SET", "Set", "set ", " set", "ADD", "Add", "add ", " add", "add\n"):
            with self.subTest(word=word):
                self.assert_refused((word, 1))

    def test_refuses_a_first_part_that_is_no_text(self):
        for word in (None, True, 0, 1, 2, b"get", b"set", b"add", ["get"], ("get",), {"get": 1}, {"get"}):
            with self.subTest(word=word):
                self.assert_refused((word,))
                self.assert_refused((word, 1))

    def test_refuses_a_first_part_that_says_it_equals_every_word(self):
        class Same:
            def __eq__(self, other):
                return True

        self.assert_refused((Same(),))
        self.assert_refused((Same(), 1))

    def test_refuses_parts_in_another_order(self):
        self.assert_refused((1, "set"))
        self.assert_refused((1, "add"))

    def test_refuses_what_is_no_tuple(self):
        others = (
            ["get"],
            ["set", 1],
            ["add", 1],
            [],
            "",
            "get",
            "set",
            "a1",
            b"get",
            0,
            1,
            -1,
            TOP,
            1.5,
            None,
            True,
            False,
            {},
            {"get": 1},
            {"set": 1, "add": 1},
            {"get"},
            frozenset(["get"]),
            range(2),
            object(),
            tuple,
        )
        for wish in others:
            with self.subTest(wish=wish):
                self.assert_refused(wish)

    def test_refuses_a_tuple_within_a_tuple(self):
        for wish in ((("get",),), (("set", 1),), (("add", 1),), ((("get",),),), ((),), ("set", ("add", 1))):
            with self.subTest(wish=wish):
                self.assert_refused(wish)
        self.assert_refused(nested(5000))

    def test_changes_nothing_that_is_handed_in(self):
        wish = ["set", [1]]
        self.assert_refused(wish)
        self.assertEqual(wish, ["set", [1]])


class DoneTest(unittest.TestCase):
    def assert_done(self, amount, wish, expected):
        pair = done(amount, wish)
        self.assertIs(type(pair), tuple)
        self.assertEqual(pair, expected)

    def test_get_tells_the_number_and_leaves_it(self):
        for amount in AMOUNTS:
            with self.subTest(amount=amount):
                self.assert_done(amount, ("get",), (amount, amount))

    def test_set_tells_the_number_that_was_and_puts_n_in_its_place(self):
        for amount in AMOUNTS:
            for n in NUMBERS:
                with self.subTest(amount=amount, n=n):
                    self.assert_done(amount, ("set", n), (n, amount))

    def test_add_tells_the_sum_and_leaves_it(self):
        for amount in AMOUNTS:
            for n in NUMBERS:
                with self.subTest(amount=amount, n=n):
                    self.assert_done(amount, ("add", n), (amount + n, amount + n))

    def test_examples_written_out(self):
        self.assert_done(5, ("get",), (5, 5))
        self.assert_done(5, ("set", 8), (8, 5))
        self.assert_done(5, ("add", 8), (13, 13))
        self.assert_done(5, ("add", -8), (-3, -3))

    def test_sums_beyond_the_limit_of_a_wish_are_kept_whole(self):
        self.assert_done(TOP, ("add", TOP), (2 * TOP, 2 * TOP))
        self.assert_done(-TOP, ("add", -TOP), (-2 * TOP, -2 * TOP))
        self.assert_done(10 ** 400, ("add", 1), (10 ** 400 + 1, 10 ** 400 + 1))

    def test_a_number_somewhat_beyond_the_limit_raises_no_error(self):
        self.assert_done(1, ("set", TOP + 1), (TOP + 1, 1))
        self.assert_done(1, ("add", TOP), (TOP + 1, TOP + 1))


class PlayedTest(unittest.TestCase):
    def test_each_key_has_the_number_0_at_first(self):
        keys = ["a", "b", "zzzzzzzz"]
        for wish, told in ((("get",), 0), (("set", 9), 0), (("add", 9), 9)):
            with self.subTest(wish=wish):
                self.assertEqual(played(keys, [(key, wish) for key in keys]), [told] * 3)

    def test_no_rows(self):
        self.assertEqual(played(["a", "b"], []), [])

    def test_one_key(self):
        rows = [
            ("a", ("get",)),
            ("a", ("set", 5)),
            ("a", ("get",)),
            ("a", ("add", -7)),
            ("a", ("set", 0)),
            ("a", ("add", TOP)),
            ("a", ("add", TOP)),
            ("a", ("get",)),
        ]
        self.assertEqual(played(["a"], rows), [0, 0, 5, -2, -2, TOP, 2 * TOP, 2 * TOP])

    def test_several_keys_have_each_its_own_number(self):
        rows = [
            ("x", ("set", 1)),
            ("y", ("set", 2)),
            ("z", ("add", 3)),
            ("x", ("get",)),
            ("y", ("add", 10)),
            ("z", ("set", -1)),
            ("x", ("set", 4)),
            ("z", ("get",)),
            ("y", ("get",)),
            ("x", ("get",)),
        ]
        self.assertEqual(played(["x", "y", "z"], rows), [0, 0, 3, 1, 12, 3, 1, -1, 12, 4])

    def test_keys_that_share_a_beginning(self):
        keys = ["a", "aa", "ab", "aaa", "aaaaaaaa"]
        rows = [(key, ("add", at + 1)) for at, key in enumerate(keys)] + [(key, ("get",)) for key in keys]
        self.assertEqual(played(keys, rows), [1, 2, 3, 4, 5] * 2)

    def test_the_order_of_the_keys_does_not_count(self):
        rows = [("a", ("set", 1)), ("b", ("add", 2)), ("a", ("get",)), ("b", ("get",))]
        self.assertEqual(played(["a", "b"], rows), [0, 2, 1, 2])
        self.assertEqual(played(["b", "a"], rows), [0, 2, 1, 2])

    def test_the_order_of_the_rows_counts(self):
        self.assertEqual(played(["a"], [("a", ("set", 5)), ("a", ("add", 1))]), [0, 6])
        self.assertEqual(played(["a"], [("a", ("add", 1)), ("a", ("set", 5))]), [1, 1])

    def test_the_same_key_many_times(self):
        rows = [("a", ("add", 1))] * 3000
        self.assertEqual(played(["a", "b"], rows), list(range(1, 3001)))

    def test_sums_have_no_limit(self):
        rows = [("a", ("add", TOP))] * 50 + [("b", ("add", -TOP))] * 50
        expected = [TOP * n for n in range(1, 51)] + [-TOP * n for n in range(1, 51)]
        self.assertEqual(played(["a", "b"], rows), expected)

    def test_keys_somewhat_beyond_the_limits_raise_no_error(self):
        keys = ["k" * n for n in range(1, 11)]
        rows = [(key, ("add", len(key))) for key in keys]
        self.assertEqual(played(keys, rows), list(range(1, 11)))

    def test_each_desk_begins_anew(self):
        rows = [("a", ("add", 4)), ("a", ("get",))]
        self.assertEqual(played(["a"], rows), [4, 4])
        self.assertEqual(played(["a"], rows), [4, 4])

    def test_the_lists_that_are_handed_in_are_unchanged(self):
        keys = ["b", "a"]
        rows = [("a", ("set", 5)), ("b", ("add", 1)), ("a", ("get",))]
        keys_before, rows_before = copy.deepcopy(keys), copy.deepcopy(rows)
        played(keys, rows)
        self.assertEqual(keys, keys_before)
        self.assertEqual(rows, rows_before)

    def test_the_list_that_is_given_back_is_the_askers_own(self):
        keys = ["a"]
        for rows in ([], [("a", ("add", 4)), ("a", ("get",))]):
            with self.subTest(rows=rows):
                expected = [4, 4][:len(rows)]
                first = played(keys, rows)
                self.assertIs(type(first), list)
                self.assertIsNot(first, rows)
                first.append(99)
                self.assertEqual(played(keys, rows), expected)
                self.assertEqual(keys, ["a"])

    def test_a_list_that_is_changed_later_changes_nothing(self):
        keys = ["a", "b"]
        rows = [("a", ("add", 4)), ("b", ("get",))]
        told = played(keys, rows)
        keys.clear()
        rows.append(("a", ("get",)))
        self.assertEqual(told, [4, 0])


if __name__ == "__main__":
    unittest.main()
