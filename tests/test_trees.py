"""size, deep and needs: points 2, 3, 4 and, for these, point 1."""

import inspect
import unittest

from foldercode import trees
from foldercode.trees import DEEPEST, LIMIT, deep, needs, size
from making import ONE, WORDS_OF_TWO, X, Y, Z, many_names, nested, summed


class Interface(unittest.TestCase):

    def test_the_limits(self):
        self.assertEqual(LIMIT, 1000000000)
        self.assertEqual(DEEPEST, 60)
        self.assertIs(type(LIMIT), int)
        self.assertIs(type(DEEPEST), int)

    def test_the_functions_are_defined_in_this_file_and_take_expr(self):
        for name in ("size", "deep", "needs"):
            with self.subTest(name=name):
                function = getattr(trees, name)
                self.assertEqual(function.__module__, "foldercode.trees")
                self.assertEqual(list(inspect.signature(function).parameters), ["expr"])

    def test_the_kinds_of_the_answers(self):
        for expr in (ONE, X, ("sum", X, ONE), ("let", "x", ONE, X)):
            with self.subTest(expr=expr):
                self.assertIs(type(size(expr)), int)
                self.assertIs(type(deep(expr)), int)
                self.assertIs(type(needs(expr)), list)

    def test_needs_tells_texts(self):
        self.assertIs(type(needs(X)[0]), str)


class Size(unittest.TestCase):

    def test_a_number_and_a_name_are_of_size_1(self):
        for expr in (ONE, ("num", 0), ("num", -LIMIT), ("num", LIMIT), X, ("name", "abcdefgh")):
            with self.subTest(expr=expr):
                self.assertEqual(size(expr), 1)

    def test_each_word_of_two(self):
        for word in WORDS_OF_TWO:
            with self.subTest(word=word):
                self.assertEqual(size((word, X, ONE)), 3)
                self.assertEqual(size((word, (word, X, ONE), Y)), 5)
                self.assertEqual(size((word, X, (word, Y, (word, Z, ONE)))), 7)

    def test_a_when_counts_all_three(self):
        self.assertEqual(size(("when", X, Y, ONE)), 4)
        self.assertEqual(size(("when", ("sum", X, Y), Y, ONE)), 6)
        self.assertEqual(size(("when", X, ("sum", X, Y), ONE)), 6)
        self.assertEqual(size(("when", X, Y, ("sum", X, Y))), 6)

    def test_a_let_counts_both_expressions_and_not_its_name(self):
        self.assertEqual(size(("let", "x", ONE, X)), 3)
        self.assertEqual(size(("let", "x", ("sum", X, Y), X)), 5)
        self.assertEqual(size(("let", "x", ONE, ("sum", X, Y))), 5)

    def test_equal_parts_count_as_often_as_they_stand(self):
        self.assertEqual(size(("sum", X, X)), 3)
        self.assertEqual(size(("when", ONE, ONE, ONE)), 4)
        self.assertEqual(size(("let", "x", X, X)), 3)
        pair = ("times", X, X)
        self.assertEqual(size(("sum", pair, pair)), 7)
        self.assertEqual(size(("when", pair, pair, pair)), 10)
        self.assertEqual(size(("sum", ("times", X, ONE), ("times", X, ONE))), 7)

    def test_names_that_are_words_of_the_document(self):
        for word in (*WORDS_OF_TWO, "num", "name", "when", "let"):
            with self.subTest(word=word):
                self.assertEqual(size(("name", word)), 1)
                self.assertEqual(size(("let", word, ONE, ("name", word))), 3)

    def test_a_size_of_200(self):
        self.assertEqual(size(("when", X, Y, summed([ONE] * 98))), 198)
        self.assertEqual(size(("when", X, Y, summed([ONE] * 99))), 200)
        self.assertEqual(size(("when", ONE, summed([X] * 99), ONE)), 200)

    def test_just_60_deep(self):
        # One name and 59 levels around it: a when adds 3, the others add 2.
        self.assertEqual(size(nested(60, "first")), 1 + 20 * 2 + 20 * 3 + 19 * 2)
        self.assertEqual(size(nested(60, "middle")), 1 + 30 * 3 + 29 * 2)
        self.assertEqual(size(nested(60, "last")), 1 + 20 * 2 + 20 * 3 + 19 * 2)


class Deep(unittest.TestCase):

    def test_a_number_and_a_name_are_1_deep(self):
        for expr in (ONE, ("num", 0), ("num", -LIMIT), ("num", LIMIT), X, ("name", "abcdefgh")):
            with self.subTest(expr=expr):
                self.assertEqual(deep(expr), 1)

    def test_each_word_of_two(self):
        for word in WORDS_OF_TWO:
            with self.subTest(word=word):
                self.assertEqual(deep((word, X, ONE)), 2)
                self.assertEqual(deep((word, (word, X, ONE), Y)), 3)
                self.assertEqual(deep((word, X, (word, Y, ONE))), 3)
                self.assertEqual(deep((word, (word, X, ONE), (word, Y, ONE))), 3)

    def test_a_when_with_the_deepest_first_in_the_middle_and_last(self):
        low = ("sum", X, ONE)
        lower = ("sum", ONE, ("less", X, Y))
        self.assertEqual(deep(("when", X, Y, ONE)), 2)
        self.assertEqual(deep(("when", lower, low, ONE)), 4)
        self.assertEqual(deep(("when", low, lower, ONE)), 4)
        self.assertEqual(deep(("when", low, ONE, lower)), 4)

    def test_a_let_with_the_deepest_first_and_last(self):
        low = ("sum", X, ONE)
        self.assertEqual(deep(("let", "x", ONE, X)), 2)
        self.assertEqual(deep(("let", "x", low, X)), 3)
        self.assertEqual(deep(("let", "x", ONE, low)), 3)
        self.assertEqual(deep(("let", "x", ("less", low, ONE), low)), 4)

    def test_it_goes_by_the_deepest_and_not_by_the_greatest(self):
        wide = summed([X] * 8)
        narrow = ("sum", ONE, ("sum", ONE, ("sum", ONE, ("sum", ONE, X))))
        self.assertEqual((deep(wide), size(wide)), (4, 15))
        self.assertEqual((deep(narrow), size(narrow)), (5, 9))
        self.assertEqual(deep(("less", wide, narrow)), 6)
        self.assertEqual(deep(("less", narrow, wide)), 6)

    def test_equal_parts_make_it_no_deeper(self):
        pair = ("times", X, X)
        self.assertEqual(deep(("sum", pair, pair)), 3)
        self.assertEqual(deep(("when", pair, pair, pair)), 3)

    def test_names_that_are_words_of_the_document(self):
        for word in (*WORDS_OF_TWO, "num", "name", "when", "let"):
            with self.subTest(word=word):
                self.assertEqual(deep(("name", word)), 1)
                self.assertEqual(deep(("let", word, ONE, ("name", word))), 2)

    def test_just_60_deep(self):
        for place in ("first", "middle", "last"):
            with self.subTest(place=place):
                self.assertEqual(deep(nested(59, place)), 59)
                self.assertEqual(deep(nested(60, place)), DEEPEST)

    def test_somewhat_beyond_the_limits_is_no_error(self):
        expr = nested(100, "last")
        self.assertEqual(deep(expr), 100)
        self.assertGreater(size(expr), 200)
        self.assertEqual(needs(expr), ["x"])

    def test_a_size_of_200(self):
        self.assertEqual(deep(("when", X, Y, summed([ONE] * 99))), 9)


class Needs(unittest.TestCase):

    def test_no_name_at_all(self):
        self.assertEqual(needs(ONE), [])
        self.assertEqual(needs(("sum", ONE, ("num", 2))), [])
        self.assertEqual(needs(("when", ONE, ONE, ONE)), [])
        self.assertEqual(needs(("let", "x", ONE, ONE)), [])

    def test_a_name_alone(self):
        self.assertEqual(needs(X), ["x"])

    def test_one_name_several_times_is_told_once(self):
        self.assertEqual(needs(("sum", X, X)), ["x"])
        self.assertEqual(needs(("when", X, ("sum", X, ONE), X)), ["x"])
        self.assertEqual(needs(("sum", ("sum", X, Y), ("sum", Y, X))), ["x", "y"])

    def test_the_order_from_the_left_in_each_word_of_two(self):
        for word in WORDS_OF_TWO:
            with self.subTest(word=word):
                self.assertEqual(needs((word, X, Y)), ["x", "y"])
                self.assertEqual(needs((word, Y, X)), ["y", "x"])
                self.assertEqual(needs((word, (word, Z, Y), X)), ["z", "y", "x"])
                self.assertEqual(needs((word, Z, (word, X, Y))), ["z", "x", "y"])

    def test_the_order_goes_by_the_place_and_not_by_the_depth(self):
        self.assertEqual(needs(("sum", ("sum", ONE, ("sum", ONE, Z)), X)), ["z", "x"])
        self.assertEqual(needs(("sum", X, ("sum", Z, ("sum", ONE, Y)))), ["x", "z", "y"])

    def test_the_order_in_a_when(self):
        self.assertEqual(needs(("when", X, Y, Z)), ["x", "y", "z"])
        self.assertEqual(needs(("when", Z, Y, X)), ["z", "y", "x"])
        self.assertEqual(needs(("when", Y, ("less", Z, Y), X)), ["y", "z", "x"])

    def test_the_order_in_a_let(self):
        self.assertEqual(needs(("let", "w", X, Y)), ["x", "y"])
        self.assertEqual(needs(("let", "w", Y, X)), ["y", "x"])
        self.assertEqual(needs(("let", "w", ("sum", Z, Y), ("sum", X, Y))), ["z", "y", "x"])

    def test_the_order_over_words_whens_and_lets_together(self):
        expr = ("sum",
                ("when", ("name", "d"), ("let", "k", ("name", "b"), ("sum", ("name", "k"), ("name", "e"))),
                 ("name", "a")),
                ("let", "d", ("name", "c"), ("times", ("name", "d"), ("name", "f"))))
        self.assertEqual(needs(expr), ["d", "b", "e", "a", "c", "f"])


class NeedsOfLets(unittest.TestCase):

    def test_a_let_hides_its_name_in_its_second_expression(self):
        self.assertEqual(needs(("let", "x", ONE, X)), [])
        self.assertEqual(needs(("let", "x", ONE, ("sum", X, ("times", X, Y)))), ["y"])
        self.assertEqual(needs(("let", "x", Y, ("when", X, X, X))), ["y"])

    def test_a_let_does_not_hide_its_name_in_its_first_expression(self):
        self.assertEqual(needs(("let", "x", X, ONE)), ["x"])
        self.assertEqual(needs(("let", "x", X, X)), ["x"])
        self.assertEqual(needs(("let", "x", ("sum", Y, X), ("sum", X, Z))), ["y", "x", "z"])

    def test_a_name_free_beside_a_let_of_it(self):
        let = ("let", "x", ONE, X)
        for word in WORDS_OF_TWO:
            with self.subTest(word=word):
                self.assertEqual(needs((word, X, let)), ["x"])
                self.assertEqual(needs((word, let, X)), ["x"])
        self.assertEqual(needs(("when", let, let, X)), ["x"])
        self.assertEqual(needs(("when", let, X, let)), ["x"])
        self.assertEqual(needs(("when", X, let, let)), ["x"])

    def test_a_hidden_name_has_no_place_in_the_order(self):
        let = ("let", "x", ONE, ("sum", X, Y))
        self.assertEqual(needs(("sum", let, X)), ["y", "x"])
        self.assertEqual(needs(("sum", X, let)), ["x", "y"])
        self.assertEqual(needs(("sum", ("sum", X, let), X)), ["x", "y"])

    def test_a_let_within_the_second_expression_of_a_let_of_that_name(self):
        self.assertEqual(needs(("let", "x", ONE, ("let", "x", X, X))), [])
        self.assertEqual(needs(("let", "x", ONE, ("sum", ("let", "x", ONE, X), X))), [])
        self.assertEqual(needs(("let", "x", X, ("let", "x", X, ("sum", X, Y)))), ["x", "y"])

    def test_a_let_within_the_first_expression_of_a_let_of_that_name(self):
        self.assertEqual(needs(("let", "x", ("let", "x", ONE, X), X)), [])
        self.assertEqual(needs(("let", "x", ("let", "x", X, X), X)), ["x"])
        self.assertEqual(needs(("let", "x", ("sum", ("let", "x", ONE, X), X), X)), ["x"])

    def test_a_let_within_a_let_of_another_name(self):
        self.assertEqual(needs(("let", "x", ONE, ("let", "y", X, ("sum", X, Y)))), [])
        self.assertEqual(needs(("let", "x", ONE, ("let", "y", Y, ("sum", X, Y)))), ["y"])
        self.assertEqual(needs(("let", "x", ONE, ("sum", ("let", "y", ONE, Y), Y))), ["y"])
        self.assertEqual(needs(("let", "x", ("let", "y", X, Y), Y)), ["x", "y"])
        self.assertEqual(needs(("let", "x", ("let", "y", ONE, ("sum", X, Y)), X)), ["x"])
        self.assertEqual(needs(("let", "x", ONE, ("let", "y", ONE, Z))), ["z"])

    def test_a_let_whose_name_does_not_stand_in_it(self):
        self.assertEqual(needs(("let", "x", Y, Z)), ["y", "z"])
        self.assertEqual(needs(("let", "x", ONE, ONE)), [])
        self.assertEqual(needs(("sum", ("let", "x", Y, ONE), X)), ["y", "x"])


class NeedsOfNames(unittest.TestCase):

    def test_names_that_are_alike_are_different_names(self):
        for one, two in (("a", "b"), ("a", "aa"), ("ab", "a"), ("ab", "abc"), ("ab", "ba"),
                         ("abcdefgh", "abcdefgi"), ("abcdefgh", "bbcdefgh"), ("abcdefgh", "abcdefg")):
            with self.subTest(one=one, two=two):
                first, second = ("name", one), ("name", two)
                self.assertEqual(needs(("sum", first, second)), [one, two])
                self.assertEqual(needs(("let", one, ONE, ("sum", first, second))), [two])
                self.assertEqual(needs(("let", two, ONE, ("sum", first, second))), [one])

    def test_names_that_are_words_of_the_document(self):
        for word in (*WORDS_OF_TWO, "num", "name", "when", "let"):
            with self.subTest(word=word):
                here = ("name", word)
                self.assertEqual(needs(here), [word])
                self.assertEqual(needs(("sum", X, here)), ["x", word])
                self.assertEqual(needs(("let", word, ONE, ("sum", here, X))), ["x"])
                self.assertEqual(needs(("let", word, here, ONE)), [word])
                self.assertEqual(needs(("let", word, X, Y)), ["x", "y"])

    def test_names_of_1_and_of_8_signs(self):
        for name in ("a", "z", "aaaaaaaa", "zzzzzzzz", "abcdefgh"):
            with self.subTest(name=name):
                self.assertEqual(needs(("sum", ("name", name), ONE)), [name])
                self.assertEqual(needs(("let", name, ONE, ("name", name))), [])

    def test_many_different_names_keep_their_order(self):
        names = many_names(100)
        self.assertEqual(len(set(names)), 100)
        expr = summed([("name", name) for name in names])
        self.assertEqual(size(expr), 199)
        self.assertEqual(needs(expr), names)

    def test_many_names_of_which_lets_hide_some(self):
        names = many_names(30)
        expr = summed([("name", name) for name in names])
        for name in names[::3]:
            expr = ("let", name, ONE, expr)
        self.assertEqual(needs(expr), [name for at, name in enumerate(names) if at % 3])

    def test_just_60_deep(self):
        for place in ("first", "middle", "last"):
            with self.subTest(place=place):
                self.assertEqual(needs(nested(60, place)), ["x"])
        hiding = X
        for _ in range(59):
            hiding = ("let", "x", ONE, hiding)
        self.assertEqual(needs(hiding), [])
        opening = X
        for _ in range(59):
            opening = ("let", "x", opening, X)
        self.assertEqual(needs(opening), ["x"])


class AskedAgain(unittest.TestCase):

    def setUp(self):
        self.expr = ("when", ("sum", Z, X), ("let", "y", ("less", X, Y), ("times", Y, ("num", -3))), Y)

    def test_each_tells_the_same_again(self):
        for _ in range(3):
            self.assertEqual(size(self.expr), 12)
            self.assertEqual(deep(self.expr), 4)
            self.assertEqual(needs(self.expr), ["z", "x", "y"])

    def test_a_list_that_was_told_may_be_changed(self):
        for expr, names in ((self.expr, ["z", "x", "y"]), (X, ["x"]), (ONE, [])):
            with self.subTest(expr=expr):
                told = needs(expr)
                told.append("more")
                told[0] = "other"
                self.assertEqual(needs(expr), names)
                told.clear()
                self.assertEqual(needs(expr), names)

    def test_each_asking_tells_a_list_of_its_own(self):
        first, second = needs(self.expr), needs(self.expr)
        self.assertIsNot(first, second)
        first.pop()
        self.assertEqual(second, ["z", "x", "y"])

    def test_other_expressions_asked_in_between_change_nothing(self):
        self.assertEqual(needs(self.expr), ["z", "x", "y"])
        self.assertEqual(needs(("let", "z", ONE, ("sum", Z, Y))), ["y"])
        self.assertEqual(needs(self.expr), ["z", "x", "y"])

    def test_what_was_handed_in_is_as_it_was(self):
        before = repr(self.expr)
        size(self.expr)
        deep(self.expr)
        needs(self.expr)
        self.assertEqual(repr(self.expr), before)


if __name__ == "__main__":
    unittest.main()
