"""reckoned and value: point 5 and, for these, point 1."""

import copy
import inspect
import unittest

from foldercode import reckon
from foldercode.errors import BadText, ByNought, FoldError, TooGreat, Unset
from foldercode.reckon import reckoned, value
from foldercode.trees import LIMIT, deep, size
from making import (BY_NOUGHT, NAMES_LIKE_WORDS, ONE, TOO_GREAT, WORDS_OF_TWO, X, Y, Z, nested, num, places,
                    put_around, summed)

KINDS = (Unset, ByNought, TooGreat, BadText)
SOME = (-LIMIT, 1 - LIMIT, -12, -7, -2, -1, 0, 1, 2, 3, 7, 12, LIMIT - 1, LIMIT)


class Refusing(unittest.TestCase):
    """How a refusal is asked for: by its own class and by no other one."""

    def assert_refused(self, kind, ask, *args):
        with self.assertRaises(FoldError) as caught:
            ask(*args)
        self.assertIs(type(caught.exception), kind)
        self.assertIsInstance(caught.exception, ValueError)
        for other in KINDS:
            self.assertEqual(isinstance(caught.exception, other), other is kind)
        return caught.exception

    def assert_unset(self, word, expr, setting):
        error = self.assert_refused(Unset, value, expr, setting)
        self.assertEqual(error.word, word)
        self.assertIs(type(error.word), str)

    def assert_reckoned(self, word, rows):
        """Each row has the two numbers and what comes of them, a number or a refusal."""
        for one, two, wanted in rows:
            with self.subTest(word=word, one=one, two=two):
                if wanted in KINDS:
                    self.assert_refused(wanted, reckoned, word, one, two)
                else:
                    came = reckoned(word, one, two)
                    self.assertEqual(came, wanted)
                    self.assertIs(type(came), int)


class Interface(unittest.TestCase):

    def test_the_functions_are_defined_in_this_file_with_these_arguments(self):
        for name, arguments in (("reckoned", ["word", "one", "two"]), ("value", ["expr", "setting"])):
            with self.subTest(name=name):
                function = getattr(reckon, name)
                self.assertEqual(function.__module__, "foldercode.reckon")
                self.assertEqual(list(inspect.signature(function).parameters), arguments)

    def test_the_arguments_by_their_names(self):
        self.assertEqual(reckoned(word="less", one=7, two=2), 5)
        self.assertEqual(value(expr=X, setting={"x": 4}), 4)


class SumLessTimes(Refusing):

    def test_sum(self):
        self.assert_reckoned("sum", [
            (2, 3, 5), (-2, 3, 1), (2, -3, -1), (-2, -3, -5), (0, 0, 0), (0, -5, -5), (-5, 0, -5), (5, -5, 0),
            (LIMIT, 0, LIMIT), (0, -LIMIT, -LIMIT), (LIMIT, -LIMIT, 0), (LIMIT, -1, LIMIT - 1),
            (LIMIT - 1, 1, LIMIT), (1, LIMIT - 1, LIMIT), (1 - LIMIT, -1, -LIMIT), (-1, 1 - LIMIT, -LIMIT),
            (LIMIT // 2, LIMIT // 2, LIMIT), (-LIMIT // 2, -LIMIT // 2, -LIMIT),
            (LIMIT, 1, TooGreat), (1, LIMIT, TooGreat), (-LIMIT, -1, TooGreat), (-1, -LIMIT, TooGreat),
            (LIMIT // 2, LIMIT // 2 + 1, TooGreat), (-LIMIT // 2, -LIMIT // 2 - 1, TooGreat),
            (LIMIT, LIMIT, TooGreat), (-LIMIT, -LIMIT, TooGreat)])

    def test_less(self):
        self.assert_reckoned("less", [
            (2, 3, -1), (3, 2, 1), (-2, 3, -5), (2, -3, 5), (-2, -3, 1), (0, 0, 0), (0, 5, -5), (5, 0, 5), (5, 5, 0),
            (LIMIT, 0, LIMIT), (0, LIMIT, -LIMIT), (0, -LIMIT, LIMIT), (-LIMIT, 0, -LIMIT),
            (LIMIT, LIMIT, 0), (-LIMIT, -LIMIT, 0), (LIMIT, 1, LIMIT - 1),
            (LIMIT - 1, -1, LIMIT), (1 - LIMIT, 1, -LIMIT), (-1, LIMIT - 1, -LIMIT), (1, 1 - LIMIT, LIMIT),
            (LIMIT, -1, TooGreat), (1, -LIMIT, TooGreat), (-LIMIT, 1, TooGreat), (-1, LIMIT, TooGreat),
            (LIMIT, -LIMIT, TooGreat), (-LIMIT, LIMIT, TooGreat)])

    def test_times(self):
        # 7 times 142857143 is one more than the limit.
        self.assert_reckoned("times", [
            (2, 3, 6), (-2, 3, -6), (2, -3, -6), (-2, -3, 6), (0, 0, 0), (0, -5, 0), (5, 0, 0),
            (LIMIT, 0, 0), (0, -LIMIT, 0), (LIMIT, 1, LIMIT), (LIMIT, -1, -LIMIT), (-1, -LIMIT, LIMIT),
            (50000, 20000, LIMIT), (-50000, 20000, -LIMIT), (50000, -20000, -LIMIT), (-50000, -20000, LIMIT),
            (31622, 31622, 999950884), (31623, 31623, TooGreat), (31623, -31623, TooGreat),
            (7, 142857142, 999999994),
            (7, 142857143, TooGreat), (-7, 142857143, TooGreat), (142857143, -7, TooGreat), (-7, -142857143, TooGreat),
            (LIMIT, 2, TooGreat), (2, -LIMIT, TooGreat), (LIMIT, LIMIT, TooGreat), (-LIMIT, -LIMIT, TooGreat)])

    def test_over_many_numbers(self):
        for one in SOME:
            for two in SOME:
                for word, wanted in (("sum", one + two), ("less", one - two), ("times", one * two)):
                    inside = -1000000000 <= wanted <= 1000000000
                    self.assert_reckoned(word, [(one, two, wanted if inside else TooGreat)])


class PartAndRest(Refusing):

    def test_part_is_rounded_down(self):
        self.assert_reckoned("part", [
            (7, 2, 3), (-7, 2, -4), (7, -2, -4), (-7, -2, 3), (6, 2, 3), (-6, 2, -3), (6, -2, -3), (-6, -2, 3),
            (0, 5, 0), (0, -5, 0), (1, 2, 0), (-1, 2, -1), (1, -2, -1), (-1, -2, 0), (5, 5, 1), (-5, 5, -1),
            (7, 1, 7), (7, -1, -7), (8, 3, 2), (-8, 3, -3),
            (LIMIT, 1, LIMIT), (LIMIT, -1, -LIMIT), (-LIMIT, 1, -LIMIT), (-LIMIT, -1, LIMIT),
            (LIMIT, LIMIT, 1), (LIMIT, -LIMIT, -1), (1 - LIMIT, LIMIT, -1), (LIMIT - 1, LIMIT, 0),
            (LIMIT, 3, 333333333), (-LIMIT, 3, -333333334), (-1, LIMIT, -1), (1, -LIMIT, -1)])

    def test_rest_is_what_is_left(self):
        self.assert_reckoned("rest", [
            (7, 2, 1), (-7, 2, 1), (7, -2, -1), (-7, -2, -1), (6, 2, 0), (-6, 2, 0), (6, -2, 0), (-6, -2, 0),
            (0, 5, 0), (0, -5, 0), (1, 3, 1), (-1, 3, 2), (1, -3, -2), (-1, -3, -1), (5, 5, 0), (7, 1, 0), (7, -1, 0),
            (LIMIT, 1, 0), (-LIMIT, -1, 0), (LIMIT, LIMIT, 0), (LIMIT, 3, 1), (-LIMIT, 3, 2),
            (LIMIT - 1, LIMIT, LIMIT - 1), (-1, LIMIT, LIMIT - 1), (1, -LIMIT, 1 - LIMIT), (1 - LIMIT, LIMIT, 1)])

    def test_both_are_refused_by_0(self):
        for word in ("part", "rest"):
            self.assert_reckoned(word, [(one, 0, ByNought) for one in SOME])

    def test_what_they_tell_belongs_together(self):
        for one in range(-13, 14):
            for two in range(-13, 14):
                if two != 0:
                    with self.subTest(one=one, two=two):
                        part, rest = reckoned("part", one, two), reckoned("rest", one, two)
                        self.assertEqual(part * two + rest, one)
                        self.assertTrue(0 <= rest < two or two < rest <= 0)


class BelowAndSame(Refusing):

    def test_below(self):
        self.assert_reckoned("below", [
            (2, 3, 1), (3, 2, 0), (3, 3, 0), (-3, -2, 1), (-2, -3, 0), (-1, 1, 1), (1, -1, 0), (0, 0, 0), (-1, 0, 1),
            (0, 1, 1), (0, -1, 0), (-LIMIT, LIMIT, 1), (LIMIT, -LIMIT, 0), (LIMIT, LIMIT, 0), (LIMIT - 1, LIMIT, 1),
            (-LIMIT, 1 - LIMIT, 1), (-LIMIT, -LIMIT, 0)])

    def test_same(self):
        self.assert_reckoned("same", [
            (2, 3, 0), (3, 2, 0), (3, 3, 1), (-3, -3, 1), (-3, 3, 0), (0, 0, 1), (0, 1, 0), (1, 0, 0),
            (LIMIT, LIMIT, 1), (-LIMIT, -LIMIT, 1), (-LIMIT, LIMIT, 0), (LIMIT - 1, LIMIT, 0)])

    def test_over_many_numbers(self):
        for one in SOME:
            for two in SOME:
                self.assert_reckoned("below", [(one, two, 1 if one < two else 0)])
                self.assert_reckoned("same", [(one, two, 1 if one == two else 0)])


class SomewhatBeyond(unittest.TestCase):

    def test_numbers_handed_in_beyond_the_limit_are_no_error_by_themselves(self):
        beyond = LIMIT + 1
        self.assertEqual(reckoned("part", beyond, 1), beyond)
        self.assertEqual(reckoned("rest", beyond, 2), 1)
        self.assertEqual(reckoned("below", LIMIT, beyond), 1)
        self.assertEqual(reckoned("same", beyond, beyond), 1)
        self.assertEqual(reckoned("less", beyond, 1), LIMIT)
        self.assertEqual(value(X, {"x": beyond}), beyond)
        self.assertEqual(value(num(-beyond), {}), -beyond)


class NumbersAndNames(Refusing):

    def test_a_number_comes_to_itself(self):
        for number in SOME:
            with self.subTest(number=number):
                self.assertEqual(value(num(number), {}), number)
                self.assertEqual(value(num(number), {"x": 5}), number)
                self.assertIs(type(value(num(number), {})), int)

    def test_a_name_comes_to_its_number(self):
        for number in SOME:
            with self.subTest(number=number):
                self.assertEqual(value(X, {"x": number}), number)
                self.assertEqual(value(X, {"y": 17, "x": number, "z": 18}), number)
                self.assertIs(type(value(X, {"x": number})), int)

    def test_a_name_without_a_number_is_refused(self):
        self.assert_unset("x", X, {})
        self.assert_unset("x", X, {"y": 1})
        self.assert_unset("x", X, {"xx": 1, "y": 0})
        self.assert_unset("abcdefgh", ("name", "abcdefgh"), {"abcdefg": 1, "abcdefgi": 2})
        self.assert_unset("a", ("name", "a"), {"aa": 1, "b": 1})

    def test_a_name_without_a_number_in_each_place(self):
        for place, put in places():
            with self.subTest(place=place):
                expr = put(("name", "q"))
                setting = {"x": 1, "y": 1, "z": 1}
                if place in ("when third", "when second"):
                    setting["x"] = 0 if place == "when third" else 1
                self.assert_unset("q", expr, setting)
                self.assert_unset("q", put(("sum", ONE, ("name", "q"))), setting)
                self.assertEqual(value(expr, {**setting, "q": 1}), value(put(ONE), setting))

    def test_the_first_name_from_the_left_is_told(self):
        for word in WORDS_OF_TWO:
            with self.subTest(word=word):
                self.assert_unset("x", (word, X, Y), {})
                self.assert_unset("y", (word, Y, X), {})
                self.assert_unset("y", (word, X, Y), {"x": 1})
                self.assert_unset("z", (word, (word, ONE, Z), X), {})
        self.assert_unset("x", ("when", X, Y, Z), {})
        self.assert_unset("y", ("when", X, Y, Z), {"x": 1})
        self.assert_unset("z", ("when", X, Y, Z), {"x": 0})
        self.assert_unset("y", ("let", "x", Y, Z), {})
        self.assert_unset("z", ("let", "x", Y, Z), {"y": 0})

    def test_names_that_are_words_of_the_document(self):
        for word in NAMES_LIKE_WORDS:
            with self.subTest(word=word):
                here = ("name", word)
                self.assertEqual(value(here, {word: 6}), 6)
                self.assertEqual(value(("less", here, X), {word: 6, "x": 2}), 4)
                self.assertEqual(value(("let", word, num(3), ("times", here, here)), {}), 9)
                self.assertEqual(value(("let", word, here, ("sum", here, ONE)), {word: 6}), 7)
                self.assert_unset(word, here, {"x": 1})
                self.assert_unset(word, ("sum", ("let", word, ONE, here), here), {})


class WordsOfTwo(Refusing):

    def test_each_comes_to_what_reckoned_makes(self):
        for word in WORDS_OF_TWO:
            for one in SOME:
                for two in SOME:
                    with self.subTest(word=word, one=one, two=two):
                        try:
                            wanted = reckoned(word, one, two)
                        except FoldError as error:
                            self.assert_refused(type(error), value, (word, num(one), num(two)), {})
                            self.assert_refused(type(error), value, (word, X, Y), {"x": one, "y": two})
                        else:
                            self.assertEqual(value((word, num(one), num(two)), {}), wanted)
                            self.assertEqual(value((word, X, Y), {"x": one, "y": two}), wanted)

    def test_within_one_another(self):
        setting = {"x": 7, "y": -2, "z": 0}
        self.assertEqual(value(("less", ("less", X, Y), ("less", Y, X)), setting), 18)
        self.assertEqual(value(("part", ("sum", X, ("times", Y, X)), Y), setting), 3)
        self.assertEqual(value(("rest", ("part", X, Y), num(3)), setting), 2)
        self.assertEqual(value(("same", ("below", Y, Z), ("below", Z, X)), setting), 1)

    def test_a_step_beyond_the_limit_is_refused_though_the_whole_would_not_be(self):
        self.assert_refused(TooGreat, value, ("less", ("sum", num(LIMIT), X), X), {"x": 1})
        self.assert_refused(TooGreat, value, ("times", ("times", num(LIMIT), X), num(0)), {"x": 2})
        self.assert_refused(TooGreat, value, ("part", ("times", X, X), X), {"x": LIMIT})

    def test_the_first_refusal_from_the_left_ends_it(self):
        refused = [(("name", "q"), Unset), (BY_NOUGHT, ByNought), (TOO_GREAT, TooGreat),
                   (("rest", X, num(0)), ByNought), (("less", num(-LIMIT), X), TooGreat)]
        for word in WORDS_OF_TWO:
            for one, kind in refused:
                for two, _ in refused:
                    with self.subTest(word=word, one=one, two=two):
                        self.assert_refused(kind, value, (word, one, two), {"x": 1})
                with self.subTest(word=word, one=one):
                    self.assert_refused(kind, value, (word, one, X), {"x": 1})
                    self.assert_refused(kind, value, (word, X, one), {"x": 1})
                    self.assert_refused(kind, value, (word, (word, one, BY_NOUGHT), TOO_GREAT), {"x": 1})

    def test_both_parts_are_reckoned_before_the_word_itself(self):
        for one, kind in ((("name", "q"), Unset), (TOO_GREAT, TooGreat)):
            for word in ("part", "rest"):
                with self.subTest(word=word, kind=kind):
                    self.assert_refused(kind, value, (word, one, num(0)), {})
        for word, one in (("sum", num(LIMIT)), ("less", num(-LIMIT)), ("times", num(LIMIT)), ("times", num(0))):
            with self.subTest(word=word):
                self.assert_refused(ByNought, value, (word, one, BY_NOUGHT), {})
                self.assert_unset("q", (word, one, ("name", "q")), {})

    def test_equal_parts_and_products_with_0_are_refused_too(self):
        for word in WORDS_OF_TWO:
            with self.subTest(word=word):
                self.assert_unset("q", (word, ("name", "q"), ("name", "q")), {})
        self.assert_unset("q", ("times", ("name", "q"), num(0)), {})
        self.assert_unset("q", ("times", num(0), ("name", "q")), {})


class Whens(Refusing):

    def test_the_first_leg_unless_the_first_part_is_0(self):
        for number in SOME:
            with self.subTest(number=number):
                wanted = 6 if number == 0 else 5
                self.assertEqual(value(("when", num(number), num(5), num(6)), {}), wanted)
                self.assertEqual(value(("when", X, num(5), num(6)), {"x": number}), wanted)
                self.assertEqual(value(("when", ("less", X, num(3)), num(5), num(6)), {"x": number // 2 + 3}),
                                 6 if number // 2 == 0 else 5)

    def test_a_leg_may_come_to_0(self):
        self.assertEqual(value(("when", ONE, num(0), num(6)), {}), 0)
        self.assertEqual(value(("when", num(0), num(5), num(0)), {}), 0)

    def test_the_leg_that_is_not_taken_is_not_reckoned(self):
        for leg in (BY_NOUGHT, TOO_GREAT, ("name", "q"), ("let", "x", BY_NOUGHT, ONE)):
            with self.subTest(leg=leg):
                self.assertEqual(value(("when", ONE, num(5), leg), {}), 5)
                self.assertEqual(value(("when", num(-3), num(5), leg), {}), 5)
                self.assertEqual(value(("when", num(0), leg, num(6)), {}), 6)
                self.assertEqual(value(("when", X, ("when", X, Y, leg), leg), {"x": 2, "y": 9}), 9)

    def test_the_leg_that_is_taken_is_refused(self):
        for leg, kind in ((BY_NOUGHT, ByNought), (TOO_GREAT, TooGreat), (("name", "q"), Unset)):
            with self.subTest(leg=leg):
                self.assert_refused(kind, value, ("when", ONE, leg, num(6)), {})
                self.assert_refused(kind, value, ("when", num(0), num(5), leg), {})

    def test_the_first_part_is_refused_first(self):
        for cond, kind in ((BY_NOUGHT, ByNought), (TOO_GREAT, TooGreat), (("name", "q"), Unset)):
            for leg in (BY_NOUGHT, TOO_GREAT, ("name", "p"), num(5)):
                with self.subTest(cond=cond, leg=leg):
                    self.assert_refused(kind, value, ("when", cond, leg, leg), {})


class Lets(Refusing):

    def test_the_number_holds_in_the_second_expression(self):
        self.assertEqual(value(("let", "x", num(5), X), {}), 5)
        self.assertEqual(value(("let", "x", num(0), X), {}), 0)
        self.assertEqual(value(("let", "x", ("sum", Y, ONE), ("times", X, X)), {"y": 2}), 9)
        self.assertEqual(value(("let", "x", num(5), ("sum", X, Y)), {"y": 2}), 7)
        self.assertEqual(value(("let", "x", num(5), Y), {"y": 2}), 2)

    def test_it_hides_a_number_of_the_setting(self):
        self.assertEqual(value(("let", "x", num(5), X), {"x": 3}), 5)
        self.assertEqual(value(("let", "x", num(0), X), {"x": 3}), 0)
        self.assertEqual(value(("let", "x", num(5), ("sum", X, Y)), {"x": 3, "y": 2}), 7)
        self.assertEqual(value(("let", "x", num(0), ("when", X, num(7), num(8))), {"x": 3}), 8)

    def test_behind_it_the_setting_holds_again(self):
        let = ("let", "x", num(5), ("times", X, num(10)))
        self.assertEqual(value(("sum", let, X), {"x": 3}), 53)
        self.assertEqual(value(("sum", X, let), {"x": 3}), 53)
        self.assertEqual(value(("sum", let, ("sum", X, let)), {"x": 3}), 103)
        self.assertEqual(value(("when", let, X, let), {"x": 3}), 3)
        self.assertEqual(value(("when", ("less", let, let), let, X), {"x": 3}), 3)
        self.assertEqual(value(("let", "y", let, ("sum", X, Y)), {"x": 3}), 53)
        self.assert_unset("x", ("sum", let, X), {})
        self.assert_unset("x", ("when", let, X, ONE), {})
        self.assert_unset("x", ("let", "y", let, X), {})

    def test_the_first_expression_is_under_the_outer_setting(self):
        self.assertEqual(value(("let", "x", ("sum", X, ONE), ("times", X, num(10))), {"x": 4}), 50)
        self.assertEqual(value(("let", "x", X, X), {"x": 4}), 4)
        self.assert_unset("x", ("let", "x", X, X), {})
        self.assert_unset("x", ("let", "x", ("sum", ONE, X), ONE), {"y": 1})

    def test_lets_within_lets(self):
        self.assertEqual(value(("let", "x", num(2), ("let", "y", ("sum", X, ONE), ("times", X, Y))), {}), 6)
        self.assertEqual(value(("let", "x", num(2), ("let", "x", ("sum", X, ONE), ("times", X, X))), {"x": 9}), 9)
        self.assertEqual(value(("let", "x", num(2), ("sum", ("let", "x", num(7), X), X)), {"x": 9}), 9)
        self.assertEqual(value(("let", "x", ("let", "x", num(2), ("sum", X, ONE)), ("times", X, X)), {"x": 9}), 9)
        self.assertEqual(value(("let", "y", ("let", "x", num(2), X), ("sum", X, Y)), {"x": 9, "y": 8}), 11)
        self.assert_unset("x", ("let", "y", ("let", "x", num(2), X), ("sum", Y, X)), {})

    def test_the_first_expression_is_reckoned_even_if_its_name_is_not_needed(self):
        self.assert_refused(ByNought, value, ("let", "x", BY_NOUGHT, ONE), {})
        self.assert_refused(TooGreat, value, ("let", "x", TOO_GREAT, BY_NOUGHT), {"x": 1})
        self.assert_refused(ByNought, value, ("let", "x", BY_NOUGHT, TOO_GREAT), {"x": 1})
        self.assert_unset("q", ("let", "x", ("name", "q"), BY_NOUGHT), {"x": 1})

    def test_the_second_expression_is_refused(self):
        self.assert_refused(ByNought, value, ("let", "x", num(0), ("part", ONE, X)), {"x": 1})
        self.assert_refused(TooGreat, value, ("let", "x", num(LIMIT), ("sum", X, ONE)), {"x": 1})
        self.assert_unset("q", ("let", "x", num(0), ("name", "q")), {})


class Settings(unittest.TestCase):

    EXPR = ("sum", ("let", "x", ("sum", X, ONE), ("let", "w", X, ("times", X, ("name", "w")))), ("when", Y, X, Z))

    def test_other_names_count_for_nothing(self):
        for more in ({}, {"q": 5}, {"a": LIMIT, "xx": 1, "sum": 0, "w": 77, "num": -3}):
            with self.subTest(more=more):
                self.assertEqual(value(self.EXPR, {"x": 2, "y": 1, **more}), 11)
                self.assertEqual(value(self.EXPR, {**more, "z": 6, "y": 0, "x": 2}), 15)

    def test_the_dict_is_as_it_was(self):
        for expr in (self.EXPR, X, ONE, ("let", "x", num(9), X), ("let", "w", num(9), ("name", "q")),
                     ("let", "x", num(9), BY_NOUGHT), ("let", "y", BY_NOUGHT, ONE), ("name", "q")):
            for setting in ({}, {"x": 2, "y": 1, "z": 6}, {"z": 6, "w": 4, "x": 2, "y": 0}):
                with self.subTest(expr=expr, setting=setting):
                    before = copy.deepcopy(setting)
                    try:
                        value(expr, setting)
                    except FoldError:
                        pass
                    self.assertEqual(list(setting.items()), list(before.items()))

    def test_each_answer_is_by_what_the_dict_holds_then(self):
        setting = {"x": 2, "y": 1}
        first = value(self.EXPR, setting)
        setting["x"] = 4
        second = value(self.EXPR, setting)
        setting["y"] = 0
        with self.assertRaises(Unset):
            value(self.EXPR, setting)
        setting["z"] = -1
        third = value(self.EXPR, setting)
        del setting["x"]
        with self.assertRaises(Unset):
            value(self.EXPR, setting)
        setting["x"], setting["y"] = 2, 1
        self.assertEqual((first, second, third, value(self.EXPR, setting)), (11, 29, 24, 11))

    def test_the_expression_is_as_it_was(self):
        before = repr(self.EXPR)
        value(self.EXPR, {"x": 2, "y": 1})
        self.assertEqual(repr(self.EXPR), before)


class AtTheLimits(unittest.TestCase):

    def test_just_60_deep(self):
        for place, put in places():
            with self.subTest(place=place):
                expr = put_around(put, 60)
                self.assertEqual(deep(expr), 60)
                if place == "rest second":
                    # The rest of 1 by 1 is 0, by which the next one is refused.
                    with self.assertRaises(ByNought):
                        value(expr, {"x": 1, "y": 1})
                else:
                    self.assertIs(type(value(expr, {"x": 1, "y": 1})), int)
        self.assertEqual(value(put_around(lambda part: ("sum", part, ONE), 60), {"x": 4}), 63)
        self.assertEqual(value(put_around(lambda part: ("sum", ONE, part), 60), {"x": 4}), 63)
        self.assertEqual(value(put_around(lambda part: ("let", "x", part, ("sum", X, ONE)), 59), {"x": 4}), 62)
        self.assertEqual(value(put_around(lambda part: ("let", "x", ("sum", X, ONE), part), 59), {"x": 4}), 62)
        for place in ("first", "middle", "last"):
            with self.subTest(place=place):
                self.assertIs(type(value(nested(60, place), {"x": 4})), int)

    def test_a_size_of_200(self):
        expr = ("when", X, summed([X] * 99), ONE)
        self.assertEqual(size(expr), 200)
        self.assertEqual(value(expr, {"x": 3}), 297)
        self.assertEqual(value(expr, {"x": 0}), 1)
        lets = X
        for _ in range(49):
            lets = ("let", "x", ("sum", X, ONE), lets)
        self.assertEqual(size(lets), 197)
        self.assertEqual(value(lets, {"x": 0}), 49)


if __name__ == "__main__":
    unittest.main()
