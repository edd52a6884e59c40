"""joined and chosen: points 6, 7 and 11."""

import inspect
import unittest

from foldercode import fold
from foldercode.errors import FoldError
from foldercode.fold import chosen, folded, joined
from foldercode.reckon import reckoned
from foldercode.trees import LIMIT
from making import BY_NOUGHT, NAMES_LIKE_WORDS, ONE, TOO_GREAT, WORDS_OF_TWO, X, Y, Z, num

SOME = (-LIMIT, 1 - LIMIT, -12, -7, -2, -1, 0, 1, 2, 3, 7, 12, LIMIT - 1, LIMIT)
NOUGHT = num(0)
# Short expressions of each kind that are no number.
NO_NUMBERS = (X, ("name", "sum"), ("name", "num"), ("sum", X, Y), ("less", X, Y), ("times", X, Y), ("part", X, Y),
              ("rest", X, Y), ("below", X, num(3)), ("same", X, num(3)), ("part", num(3), X), ("below", num(3), X),
              ("when", X, Y, Z), ("when", X, num(3), num(3)), ("let", "x", Y, X), ("let", "sum", X, num(3)),
              BY_NOUGHT, ("rest", NOUGHT, NOUGHT))


class Joining(unittest.TestCase):

    def assert_joined(self, rows):
        """Each row has the word, the two it stands over, and what comes of it."""
        for word, one, two, wanted in rows:
            with self.subTest(word=word, one=one, two=two):
                self.assertEqual(joined(word, one, two), wanted)

    def assert_stands(self, rows):
        self.assert_joined([(*row, row) for row in rows])


class Interface(unittest.TestCase):

    def test_the_functions_are_defined_in_this_file_with_these_arguments(self):
        for name, arguments in (("joined", ["word", "one", "two"]), ("chosen", ["cond", "one", "two"]),
                                ("folded", ["expr", "known"])):
            with self.subTest(name=name):
                function = getattr(fold, name)
                self.assertEqual(function.__module__, "foldercode.fold")
                self.assertEqual(list(inspect.signature(function).parameters), arguments)

    def test_the_arguments_by_their_names(self):
        self.assertEqual(joined(word="less", one=num(7), two=num(2)), num(5))
        self.assertEqual(chosen(cond=ONE, one=X, two=Y), X)
        self.assertEqual(folded(expr=X, known={"x": 4}), num(4))

    def test_the_answers_are_tuples(self):
        for answer in (joined("sum", X, Y), joined("sum", X, ONE), joined("sum", ONE, ONE), chosen(X, Y, Z),
                       joined("less", X, num(4)), joined("sum", ("sum", X, num(3)), num(4)), *BY_NOUGHT[1:],
                       folded(("let", "x", Y, X), {}), folded(("sum", X, ONE), {"x": 1}), folded(X, {"x": 1})):
            with self.subTest(answer=answer):
                self.assertIs(type(answer), tuple)
                if answer[0] == "num":
                    self.assertIs(type(answer[1]), int)


class BothNumbers(Joining):
    """Rule 1."""

    def test_each_word_over_numbers(self):
        for word in WORDS_OF_TWO:
            for one in SOME:
                for two in SOME:
                    try:
                        wanted = num(reckoned(word, one, two))
                    except FoldError:
                        wanted = (word, num(one), num(two))
                    self.assert_joined([(word, num(one), num(two), wanted)])

    def test_some_of_them_written_out(self):
        self.assert_joined([
            ("sum", num(2), num(3), num(5)), ("less", num(2), num(3), num(-1)), ("times", num(2), num(-3), num(-6)),
            ("part", num(-7), num(2), num(-4)), ("rest", num(7), num(-2), num(-1)), ("below", num(2), num(3), num(1)),
            ("below", num(3), num(2), num(0)), ("same", num(2), num(2), num(1)), ("same", num(0), num(2), num(0)),
            ("sum", num(LIMIT - 1), num(1), num(LIMIT)), ("less", num(1 - LIMIT), num(1), num(-LIMIT)),
            ("times", num(50000), num(-20000), num(-LIMIT)), ("times", num(5), num(0), num(0)),
            ("part", num(-LIMIT), num(-1), num(LIMIT)), ("less", num(5), num(0), num(5)), ("sum", num(0), num(0),
            num(0))])

    def test_what_is_refused_stands_as_it_is(self):
        self.assert_stands([
            ("sum", num(LIMIT), num(1)), ("sum", num(1), num(LIMIT)), ("sum", num(-LIMIT), num(-1)),
            ("less", num(-LIMIT), num(1)), ("less", num(LIMIT), num(-1)), ("less", num(-1), num(LIMIT)),
            ("times", num(7), num(142857143)), ("times", num(142857143), num(-7)), ("times", num(2), num(LIMIT)),
            ("part", num(5), NOUGHT), ("part", NOUGHT, NOUGHT), ("rest", num(5), NOUGHT), ("rest", NOUGHT, NOUGHT)])


class NumberFirst(Joining):
    """Rule 2."""

    def test_sum_times_and_same_are_changed_about(self):
        for word in ("sum", "times", "same"):
            for one in NO_NUMBERS:
                for n in (-LIMIT, -2, -1, 2, LIMIT):
                    self.assert_joined([(word, num(n), one, (word, one, num(n)))])
        self.assert_joined([("same", NOUGHT, X, ("same", X, NOUGHT)), ("same", ONE, X, ("same", X, ONE)),
                            ("sum", ONE, X, ("sum", X, ONE)), ("times", NOUGHT, X, ("times", X, NOUGHT)),
                            ("times", num(-1), X, ("times", X, num(-1)))])

    def test_they_are_joined_by_the_rules_again(self):
        self.assert_joined([
            ("sum", NOUGHT, X, X), ("times", ONE, X, X), ("sum", num(2), ("sum", X, num(3)), ("sum", X, num(5))),
            ("sum", num(-2), ("sum", X, num(3)), ("sum", ("sum", X, num(3)), num(-2))),
            ("sum", num(2), ("less", num(3), X), ("less", num(5), X)),
            ("times", num(2), ("times", X, num(3)), ("times", X, num(6))),
            ("times", num(-1), ("times", X, num(-1)), X),
            ("sum", NOUGHT, BY_NOUGHT, BY_NOUGHT), ("sum", NOUGHT, TOO_GREAT, TOO_GREAT),
            ("sum", num(-3), TOO_GREAT, ("sum", TOO_GREAT, num(-3)))])

    def test_the_others_are_not_changed_about(self):
        for word in ("less", "part", "rest", "below"):
            for one in NO_NUMBERS:
                self.assert_stands([(word, num(n), one) for n in (-LIMIT, -1, 0, 1, 2, LIMIT)])


class SecondNoNumber(Joining):
    """Rule 3."""

    def test_the_word_stands_as_it_is(self):
        for word in WORDS_OF_TWO:
            for one in NO_NUMBERS:
                self.assert_stands([(word, one, two) for two in NO_NUMBERS])

    def test_numbers_deeper_in_make_no_difference(self):
        self.assert_stands([
            ("sum", X, ("sum", Y, num(3))), ("sum", ("sum", X, num(2)), ("sum", Y, num(3))),
            ("less", num(2), ("sum", X, num(3))), ("less", num(2), ("less", num(3), X)),
            ("times", ("times", X, num(2)), Y), ("times", ("times", X, num(2)), ("times", X, num(2))),
            ("part", ("part", X, num(2)), BY_NOUGHT), ("rest", ("rest", X, num(4)), Y)])

    def test_equal_parts_are_not_reckoned_ahead(self):
        for word in WORDS_OF_TWO:
            self.assert_stands([(word, X, X), (word, ("sum", X, Y), ("sum", X, Y)), (word, BY_NOUGHT, BY_NOUGHT)])


class Less(Joining):
    """Rule 4."""

    def test_a_number_less_is_its_opposite_more(self):
        for t in NO_NUMBERS:
            if t[0] not in ("sum", "less"):
                self.assert_joined([("less", t, num(n), ("sum", t, num(-n))) for n in SOME if n != 0])
        self.assert_joined([("less", X, num(LIMIT), ("sum", X, num(-LIMIT))),
                            ("less", X, num(-LIMIT), ("sum", X, num(LIMIT)))])

    def test_it_is_joined_by_the_rules_again(self):
        self.assert_joined([
            ("less", X, NOUGHT, X), ("less", BY_NOUGHT, NOUGHT, BY_NOUGHT),
            ("less", ("sum", X, num(-3)), num(4), ("sum", X, num(-7))),
            ("less", ("sum", X, num(3)), num(-4), ("sum", X, num(7))),
            ("less", ("sum", X, num(3)), num(4), ("sum", ("sum", X, num(3)), num(-4))),
            ("less", ("sum", X, num(3)), num(3), ("sum", ("sum", X, num(3)), num(-3))),
            ("less", ("less", num(-3), X), num(4), ("less", num(-7), X)),
            ("less", ("less", num(3), X), num(-4), ("less", num(7), X)),
            ("less", ("less", num(3), X), num(4), ("sum", ("less", num(3), X), num(-4))),
            ("less", ("less", NOUGHT, X), num(4), ("less", num(-4), X))])


class NothingAdded(Joining):
    """Rule 5."""

    def test_sum_with_0_times_with_1_and_part_with_1(self):
        for t in NO_NUMBERS:
            self.assert_joined([("sum", t, NOUGHT, t), ("times", t, ONE, t), ("part", t, ONE, t)])
        for t in (("sum", X, num(3)), ("less", num(3), X), ("times", X, num(3)), ("part", X, num(3)),
                  ("rest", X, num(3)), ("sum", ("sum", X, num(3)), num(-3)), ("times", X, NOUGHT)):
            self.assert_joined([("sum", t, NOUGHT, t), ("times", t, ONE, t), ("part", t, ONE, t)])

    def test_the_numbers_beside_them_stand(self):
        for t in NO_NUMBERS:
            if t[0] not in ("sum", "less"):
                self.assert_stands([("sum", t, ONE), ("sum", t, num(-1))])
            if t[0] != "times":
                self.assert_stands([("times", t, NOUGHT), ("times", t, num(-1)), ("times", t, num(2))])
            if t[0] != "part":
                self.assert_stands([("part", t, NOUGHT), ("part", t, num(-1)), ("part", t, num(2))])

    def test_the_other_words_have_no_such_number(self):
        for t in NO_NUMBERS:
            for n in (0, 1, -1):
                self.assert_stands([("below", t, num(n)), ("same", t, num(n))])
                if t[0] != "rest":
                    self.assert_stands([("rest", t, num(n))])


class SumOfSum(Joining):
    """Rule 6."""

    def test_both_above_or_both_below_0(self):
        for b in (X, ("sum", X, Y), ("less", X, Y), ("times", X, num(2)), ("when", X, Y, Z), BY_NOUGHT):
            self.assert_joined([
                ("sum", ("sum", b, num(m)), num(n), ("sum", b, num(m + n)))
                for m, n in ((3, 4), (1, 1), (-3, -4), (-1, -1), (LIMIT - 1, 1), (1, LIMIT - 1), (1 - LIMIT, -1),
                             (-1, 1 - LIMIT), (LIMIT // 2, LIMIT // 2), (-LIMIT // 2, -LIMIT // 2))])

    def test_unlike_signs_stand(self):
        self.assert_stands([
            ("sum", ("sum", X, num(m)), num(n))
            for m, n in ((3, -4), (-3, 4), (3, -3), (-3, 3), (1, -1), (-1, 1), (3, -1), (-3, 1), (LIMIT, -LIMIT),
                         (-LIMIT, LIMIT), (LIMIT, -1), (-LIMIT, 1))])

    def test_beyond_the_limit_they_stand(self):
        self.assert_stands([
            ("sum", ("sum", X, num(m)), num(n))
            for m, n in ((LIMIT, 1), (1, LIMIT), (-LIMIT, -1), (-1, -LIMIT), (LIMIT, LIMIT), (-LIMIT, -LIMIT),
                         (LIMIT // 2, LIMIT // 2 + 1), (-LIMIT // 2, -LIMIT // 2 - 1))])

    def test_another_word_within_or_around_stands(self):
        for word in WORDS_OF_TWO:
            if word != "sum":
                self.assert_stands([("sum", (word, X, num(3)), num(4))])
            if word not in ("sum", "less"):
                self.assert_stands([(word, ("sum", X, num(3)), num(4))])
        self.assert_stands([("sum", ("sum", X, Y), num(4)), ("sum", ("sum", X, ("sum", Y, num(3))), num(4)),
                            ("sum", ("when", X, num(3), num(3)), num(4)), ("sum", ("let", "sum", X, num(3)), num(4))])

    def test_over_two_numbers_that_are_refused(self):
        self.assert_joined([
            ("sum", ("sum", num(LIMIT), num(5)), num(3), ("sum", num(LIMIT), num(8))),
            ("sum", num(3), ("sum", num(LIMIT), num(5)), ("sum", num(LIMIT), num(8))),
            ("sum", ("sum", num(-LIMIT), num(-5)), num(-3), ("sum", num(-LIMIT), num(-8)))])
        self.assert_stands([("sum", ("sum", num(5), num(LIMIT)), num(3)), ("sum", ("sum", num(LIMIT), num(5)),
                                                                           num(-5))])

    def test_it_is_joined_by_the_rules_again(self):
        over = ("sum", X, num(LIMIT))
        self.assert_joined([
            ("sum", ("sum", over, num(3)), num(4), ("sum", over, num(7))),
            ("sum", ("sum", ("sum", X, num(-3)), num(3)), num(4), ("sum", ("sum", X, num(-3)), num(7))),
            ("sum", ("sum", ("less", num(-3), X), num(3)), num(4), ("sum", ("less", num(-3), X), num(7)))])


class SumOfLess(Joining):
    """Rule 7."""

    def test_neither_above_0_while_the_other_is_below(self):
        for b in (X, ("sum", X, Y), ("less", num(3), X), ("sum", X, num(-3)), ("when", X, Y, Z), BY_NOUGHT):
            self.assert_joined([
                ("sum", ("less", num(m), b), num(n), ("less", num(m + n), b))
                for m, n in ((3, 4), (1, 1), (-3, -4), (-1, -1), (0, 4), (0, -4), (0, 1), (0, -1), (0, LIMIT),
                             (0, -LIMIT), (LIMIT - 1, 1), (1, LIMIT - 1), (1 - LIMIT, -1), (-1, 1 - LIMIT))])

    def test_unlike_signs_stand(self):
        self.assert_stands([
            ("sum", ("less", num(m), X), num(n))
            for m, n in ((3, -4), (-3, 4), (3, -3), (-3, 3), (1, -1), (-1, 1), (LIMIT, -LIMIT), (-LIMIT, LIMIT),
                         (LIMIT, -1), (-LIMIT, 1))])

    def test_beyond_the_limit_they_stand(self):
        self.assert_stands([
            ("sum", ("less", num(m), X), num(n))
            for m, n in ((LIMIT, 1), (1, LIMIT), (-LIMIT, -1), (-1, -LIMIT), (LIMIT, LIMIT), (-LIMIT, -LIMIT))])

    def test_another_less_or_another_word_around_stands(self):
        self.assert_stands([("sum", ("less", X, Y), num(4)), ("sum", ("less", X, ("less", num(3), Y)), num(4)),
                            ("sum", ("part", num(3), X), num(4)), ("sum", ("below", num(3), X), num(4)),
                            ("sum", ("rest", num(3), X), num(4))])
        for word in ("times", "part", "rest", "below", "same"):
            self.assert_stands([(word, ("less", num(3), X), num(4))])

    def test_over_two_numbers_that_are_refused(self):
        self.assert_joined([
            ("sum", ("less", num(5), num(-LIMIT)), num(3), ("less", num(8), num(-LIMIT))),
            ("sum", ("less", num(-5), num(LIMIT)), num(-3), ("less", num(-8), num(LIMIT)))])
        self.assert_stands([("sum", ("less", num(5), num(-LIMIT)), num(-5)),
                            ("sum", ("less", num(-5), num(LIMIT)), num(5)),
                            ("sum", ("less", num(LIMIT), num(-1)), num(1))])


class TimesOfTimes(Joining):
    """Rule 8."""

    def test_the_product_of_both(self):
        for b in (X, ("sum", X, num(3)), ("times", X, Y), ("when", X, Y, Z), BY_NOUGHT):
            self.assert_joined([
                ("times", ("times", b, num(m)), num(n), ("times", b, num(m * n)))
                for m, n in ((3, 4), (-3, 4), (3, -4), (-3, -4), (3, -1), (-1, 3), (0, 4), (0, -4), (0, LIMIT),
                             (50000, 20000), (-50000, 20000), (50000, -20000), (-50000, -20000), (LIMIT, -1),
                             (-LIMIT, -1), (-1, LIMIT), (2, LIMIT // 2))])

    def test_by_0_it_stands(self):
        self.assert_stands([("times", ("times", X, num(m)), NOUGHT) for m in SOME])
        self.assert_stands([("times", X, NOUGHT), ("times", ("times", X, Y), NOUGHT)])

    def test_beyond_the_limit_it_stands(self):
        self.assert_stands([
            ("times", ("times", X, num(m)), num(n))
            for m, n in ((7, 142857143), (-7, 142857143), (142857143, -7), (-7, -142857143), (LIMIT, 2), (2, LIMIT),
                         (-LIMIT, 2), (LIMIT, LIMIT), (50000, 20001), (31623, 31623), (-31623, 31623))])

    def test_another_word_within_or_around_stands(self):
        for word in WORDS_OF_TWO:
            if word != "times":
                self.assert_stands([("times", (word, X, num(3)), num(4)), ("times", (word, num(3), X), num(4))])
            if word not in ("times", "less"):
                self.assert_stands([(word, ("times", X, num(3)), num(4))])
        self.assert_stands([("times", ("times", X, Y), num(4)), ("times", ("times", X, ("times", Y, num(3))), num(4))])

    def test_over_two_numbers_that_are_refused(self):
        self.assert_joined([
            ("times", ("times", num(LIMIT), num(2)), num(-3), ("times", num(LIMIT), num(-6))),
            ("times", num(-1), ("times", num(2), num(LIMIT)), ("times", num(2), num(-LIMIT)))])
        self.assert_stands([("times", ("times", num(2), num(LIMIT)), num(3)),
                            ("times", ("times", num(LIMIT), num(2)), NOUGHT)])

    def test_it_is_joined_by_the_rules_again(self):
        over = ("times", X, num(LIMIT))
        self.assert_joined([
            ("times", ("times", X, num(-1)), num(-1), X), ("times", ("times", over, num(2)), num(3), ("times", over,
            num(6))),
            ("times", ("times", ("times", X, NOUGHT), NOUGHT), num(5), ("times", ("times", X, NOUGHT), NOUGHT))])


class PartOfPart(Joining):
    """Rule 9."""

    def test_both_above_0(self):
        for b in (X, ("sum", X, num(3)), ("part", X, Y), ("part", num(3), X), ("when", X, Y, Z), BY_NOUGHT):
            self.assert_joined([
                ("part", ("part", b, num(m)), num(n), ("part", b, num(m * n)))
                for m, n in ((3, 4), (2, 2), (50000, 20000), (2, LIMIT // 2), (LIMIT // 2, 2), (7, 142857142))])

    def test_0_and_below_stand(self):
        self.assert_stands([
            ("part", ("part", X, num(m)), num(n))
            for m, n in ((3, 0), (0, 3), (0, 0), (-3, 4), (3, -4), (-3, -4), (-1, 2), (2, -1), (-1, -1), (-2, 2),
                         (0, LIMIT), (-1, LIMIT), (LIMIT, -1), (LIMIT, 0))])

    def test_beyond_the_limit_they_stand(self):
        self.assert_stands([
            ("part", ("part", X, num(m)), num(n))
            for m, n in ((7, 142857143), (142857143, 7), (LIMIT, 2), (2, LIMIT), (LIMIT, LIMIT), (50000, 20001))])

    def test_another_word_within_or_around_stands(self):
        for word in WORDS_OF_TWO:
            if word != "part":
                self.assert_stands([("part", (word, X, num(3)), num(4)), ("part", (word, num(3), X), num(4))])
            if word not in ("part", "less"):
                self.assert_stands([(word, ("part", X, num(3)), num(4))])
        self.assert_stands([("part", ("part", X, Y), num(4)), ("part", ("part", num(3), X), num(4)),
                            ("part", BY_NOUGHT, num(4))])

    def test_it_is_joined_by_the_rules_again(self):
        over = ("part", X, num(LIMIT))
        self.assert_joined([("part", ("part", over, num(2)), num(3), ("part", over, num(6))),
                            ("part", ("part", ("part", X, num(-2)), num(2)), num(3), ("part", ("part", X, num(-2)),
                            num(6)))])


class RestOfRest(Joining):
    """Rule 10."""

    def test_no_greater_than_the_outer_one(self):
        for m, n in ((3, 5), (3, 3), (1, 1), (1, 2), (4, 6), (2, LIMIT), (LIMIT, LIMIT), (LIMIT - 1, LIMIT)):
            t = ("rest", X, num(m))
            self.assert_joined([("rest", t, num(n), t)])

    def test_divided_by_the_outer_one(self):
        for b in (X, ("sum", X, num(3)), ("rest", X, Y), ("rest", num(3), X), ("when", X, Y, Z), BY_NOUGHT):
            self.assert_joined([
                ("rest", ("rest", b, num(m)), num(n), ("rest", b, num(n)))
                for m, n in ((6, 3), (6, 2), (6, 1), (2, 1), (12, 4), (LIMIT, 2), (LIMIT, LIMIT // 2), (LIMIT, 1))])

    def test_not_divided_it_stands(self):
        self.assert_stands([
            ("rest", ("rest", X, num(m)), num(n))
            for m, n in ((5, 3), (3, 2), (7, 6), (9, 6), (12, 5), (LIMIT, 3), (LIMIT, LIMIT - 1), (LIMIT,
                                                                                                   LIMIT // 2 + 1))])

    def test_0_and_below_stand(self):
        self.assert_stands([
            ("rest", ("rest", X, num(m)), num(n))
            for m, n in ((6, 0), (0, 6), (0, 0), (-6, 3), (6, -3), (-6, -3), (-3, 6), (3, -6), (-3, -3), (-1, 1),
                         (-1, -1), (1, -1), (1, 0), (0, 1), (-LIMIT, LIMIT), (LIMIT, -LIMIT))])

    def test_another_word_within_or_around_stands(self):
        for word in WORDS_OF_TWO:
            if word != "rest":
                self.assert_stands([("rest", (word, X, num(6)), num(3)), ("rest", (word, num(6), X), num(3)),
                                    ("rest", (word, X, num(3)), num(6))])
            if word not in ("rest", "less"):
                self.assert_stands([(word, ("rest", X, num(6)), num(3))])
        self.assert_stands([("rest", ("rest", X, Y), num(4)), ("rest", ("rest", num(6), X), num(3)),
                            ("rest", ("rest", num(5), NOUGHT), num(4))])

    def test_it_is_joined_by_the_rules_again(self):
        # 9 isn't divided by 6, but by 3 it is, once the 6 is gone.
        two = ("rest", ("rest", X, num(9)), num(6))
        three = ("rest", ("rest", ("rest", X, num(25)), num(10)), num(4))
        self.assert_stands([two, ("rest", two, num(4))])
        self.assert_joined([("rest", two, num(3), ("rest", X, num(3))), ("rest", two, num(1), ("rest", X, ONE)),
                            ("rest", two, num(2), ("rest", ("rest", X, num(9)), num(2))),
                            ("rest", two, num(6), two), ("rest", two, num(7), two),
                            ("rest", three, num(2), ("rest", ("rest", X, num(25)), num(2))),
                            ("rest", three, ONE, ("rest", X, ONE))])


class AsItStands(Joining):
    """Rule 11."""

    def test_below_and_same_with_a_number(self):
        for t in (*NO_NUMBERS, ("sum", X, num(3)), ("less", num(3), X), ("below", X, num(3)), ("same", X, NOUGHT)):
            for n in SOME:
                self.assert_stands([("below", t, num(n)), ("same", t, num(n))])

    def test_words_that_go_together_in_no_rule(self):
        self.assert_stands([
            ("sum", ("times", X, num(3)), num(3)), ("times", ("sum", X, num(3)), num(3)),
            ("part", ("times", X, num(3)), num(3)), ("times", ("part", X, num(3)), num(3)),
            ("rest", ("times", X, num(3)), num(3)), ("part", ("rest", X, num(3)), num(3)),
            ("rest", ("part", X, num(3)), num(3)), ("rest", ("sum", X, num(3)), num(3)), ("rest", X, ONE)])

    def test_names_that_are_words_of_the_document(self):
        for name in NAMES_LIKE_WORDS:
            for word in WORDS_OF_TWO:
                if word != "less":
                    self.assert_stands([(word, ("name", name), num(4))])
                self.assert_stands([(word, ("name", name), ("name", "num"))])


class Chosen(unittest.TestCase):

    def test_by_a_number(self):
        for n in SOME:
            with self.subTest(n=n):
                self.assertEqual(chosen(num(n), X, Y), Y if n == 0 else X)
        self.assertEqual(chosen(NOUGHT, BY_NOUGHT, num(6)), num(6))
        self.assertEqual(chosen(num(-2), BY_NOUGHT, num(6)), BY_NOUGHT)
        self.assertEqual(chosen(ONE, NOUGHT, X), NOUGHT)

    def test_by_what_is_no_number(self):
        for cond in (*NO_NUMBERS, ("sum", X, num(3)), ("times", X, NOUGHT), ("below", X, NOUGHT), ("less", NOUGHT, X)):
            with self.subTest(cond=cond):
                self.assertEqual(chosen(cond, Y, num(3)), ("when", cond, Y, num(3)))

    def test_by_same_with_0(self):
        for d in NO_NUMBERS:
            with self.subTest(d=d):
                once = ("same", d, NOUGHT)
                twice = ("same", once, NOUGHT)
                thrice = ("same", twice, NOUGHT)
                self.assertEqual(chosen(once, Y, num(3)), ("when", d, num(3), Y))
                self.assertEqual(chosen(twice, Y, num(3)), ("when", d, Y, num(3)))
                self.assertEqual(chosen(thrice, Y, num(3)), ("when", d, num(3), Y))
                self.assertEqual(chosen(("same", thrice, NOUGHT), Y, num(3)), ("when", d, Y, num(3)))

    def test_by_same_with_another_number(self):
        for n in (1, -1, 2, LIMIT, -LIMIT):
            with self.subTest(n=n):
                cond = ("same", X, num(n))
                self.assertEqual(chosen(cond, Y, Z), ("when", cond, Y, Z))
                self.assertEqual(chosen(("same", cond, NOUGHT), Y, Z), ("when", cond, Z, Y))

    def test_by_same_with_0_ahead_or_of_two_that_are_no_numbers(self):
        for cond in (("same", NOUGHT, X), ("same", X, Y), ("same", X, X), ("same", X, ("name", "num"))):
            with self.subTest(cond=cond):
                self.assertEqual(chosen(cond, Y, Z), ("when", cond, Y, Z))

    def test_by_another_word_with_0(self):
        for word in WORDS_OF_TWO:
            if word != "same":
                with self.subTest(word=word):
                    cond = (word, X, NOUGHT)
                    self.assertEqual(chosen(cond, Y, Z), ("when", cond, Y, Z))
                    within = (word, ("same", X, NOUGHT), NOUGHT)
                    self.assertEqual(chosen(within, Y, Z), ("when", within, Y, Z))

    def test_equal_legs_are_kept(self):
        self.assertEqual(chosen(X, Y, Y), ("when", X, Y, Y))
        self.assertEqual(chosen(X, num(3), num(3)), ("when", X, num(3), num(3)))
        self.assertEqual(chosen(X, X, X), ("when", X, X, X))
        self.assertEqual(chosen(("same", X, NOUGHT), Y, Y), ("when", X, Y, Y))
        self.assertEqual(chosen(X, ONE, NOUGHT), ("when", X, ONE, NOUGHT))

    def test_by_same_with_0_as_often_as_may_be(self):
        cond = X
        for often in range(1, 59):
            cond = ("same", cond, NOUGHT)
            with self.subTest(often=often):
                self.assertEqual(chosen(cond, Y, Z), ("when", X, Z, Y) if often % 2 else ("when", X, Y, Z))


if __name__ == "__main__":
    unittest.main()
