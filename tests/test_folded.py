"""folded: points 8 to 11 and, for it, point 1."""

import copy
import unittest

from foldercode.errors import FoldError, Unset
from foldercode.fold import chosen, folded, joined
from foldercode.reckon import value
from foldercode.trees import LIMIT, deep, needs, size
from making import (BY_NOUGHT, NAMES_LIKE_WORDS, ONE, TOO_GREAT, WORDS_OF_TWO, X, Y, Z, Maker, nested, num, places,
                    put_around, summed)

NOUGHT = num(0)
SOME = (-LIMIT, -7, -1, 0, 1, 2, 12, LIMIT)


def outcome(expr, setting):
    """The number that an expression comes to, or its refusal's class and name."""
    try:
        return value(expr, setting)
    except Unset as error:
        return Unset, error.word
    except FoldError as error:
        return type(error), None


def everything_in(expr):
    """Each expression that stands in this one, itself too."""
    yield expr
    if expr[0] not in ("num", "name"):
        for part in expr[2 if expr[0] == "let" else 1:]:
            yield from everything_in(part)


class Folding(unittest.TestCase):

    def assert_folded(self, rows):
        """Each row has the expression, what is known, and what comes of it."""
        for expr, known, wanted in rows:
            with self.subTest(expr=expr, known=known):
                self.assertEqual(folded(expr, known), wanted)


class NumbersAndNames(Folding):

    def test_a_number_is_itself(self):
        for n in SOME:
            self.assert_folded([(num(n), {}, num(n)), (num(n), {"x": 4}, num(n))])

    def test_a_name_that_is_known_becomes_its_number(self):
        for n in SOME:
            self.assert_folded([(X, {"x": n}, num(n)), (X, {"y": 17, "x": n, "z": 18}, num(n))])

    def test_another_name_is_itself(self):
        self.assert_folded([(X, {}, X), (X, {"y": 4}, X), (X, {"xx": 4, "y": 0}, X),
                            (("name", "abcdefgh"), {"abcdefg": 1, "abcdefgi": 2}, ("name", "abcdefgh"))])

    def test_names_that_are_words_of_the_document(self):
        for word in NAMES_LIKE_WORDS:
            here = ("name", word)
            self.assert_folded([
                (here, {word: 6}, num(6)), (here, {"x": 6}, here), (("sum", here, ONE), {word: 6}, num(7)),
                (("sum", here, ONE), {"x": 6}, ("sum", here, ONE)), (("sum", ONE, here), {}, ("sum", here, ONE)),
                (("let", word, ONE, ("sum", here, X)), {word: 6}, ("sum", X, ONE)),
                (("let", word, X, ("sum", here, ONE)), {word: 6}, ("let", word, X, ("sum", here, ONE)))])


class WordsOfTwo(Folding):

    def test_a_word_of_two_is_joined_of_its_parts_folded(self):
        known = {"x": 7, "z": 0}
        parts = [X, Y, Z, ONE, num(-3), ("sum", Y, X), ("sum", X, ONE), ("times", Y, num(2)), ("rest", Y, num(6)),
                 ("part", X, Z), ("part", Y, num(3)), ("less", num(2), Y), ("let", "y", X, Y), ("when", Z, X, Y)]
        for word in WORDS_OF_TWO:
            for one in parts:
                for two in parts:
                    wanted = joined(word, folded(one, known), folded(two, known))
                    self.assert_folded([((word, one, two), known, wanted)])

    def test_some_of_them_written_out(self):
        self.assert_folded([
            (("sum", X, Y), {"x": 3, "y": 4}, num(7)), (("sum", X, Y), {"x": 3}, ("sum", Y, num(3))),
            (("sum", X, Y), {"y": 3}, ("sum", X, num(3))), (("sum", X, Y), {}, ("sum", X, Y)),
            (("less", X, Y), {"y": 3}, ("sum", X, num(-3))), (("less", X, Y), {"x": 3}, ("less", num(3), Y)),
            (("times", X, Y), {"x": 1}, Y), (("times", X, Y), {"x": 0}, ("times", Y, NOUGHT)),
            (("part", X, Y), {"y": 1}, X), (("part", X, Y), {"y": 0}, ("part", X, NOUGHT)),
            (("part", X, Y), {"x": 0}, ("part", NOUGHT, Y)), (("same", X, Y), {"x": 0}, ("same", Y, NOUGHT)),
            (("below", X, Y), {"x": 0}, ("below", NOUGHT, Y))])

    def test_within_one_another(self):
        self.assert_folded([
            (("sum", ("sum", ("sum", X, ONE), num(2)), Y), {"y": 3}, ("sum", X, num(6))),
            (("less", ("sum", X, num(-1)), ("times", Y, Y)), {"y": 3}, ("sum", X, num(-10))),
            (("sum", ("sum", ONE, X), ("sum", Y, num(2))), {}, ("sum", ("sum", X, ONE), ("sum", Y, num(2)))),
            (("times", num(2), ("times", num(3), ("times", X, num(4)))), {}, ("times", X, num(24))),
            (("part", ("part", ("part", X, num(2)), Y), num(5)), {"y": 3}, ("part", X, num(30))),
            (("rest", ("rest", ("rest", X, num(9)), num(6)), Y), {"y": 3}, ("rest", X, num(3))),
            (("sum", num(5), ("less", num(3), ("less", X, num(4)))), {}, ("less", num(8), ("sum", X, num(-4))))])


class Whens(Folding):

    def test_a_when_is_chosen_of_its_parts_folded(self):
        known = {"x": 7, "z": 0}
        parts = [X, Y, Z, ("same", Y, Z), ("same", Z, Y), ("same", X, Y), ("same", Z, Z), ("sum", Y, X),
                 ("same", ("same", Y, Z), NOUGHT), ("part", X, Z)]
        for cond in parts:
            for one in parts:
                for two in parts:
                    wanted = chosen(folded(cond, known), folded(one, known), folded(two, known))
                    self.assert_folded([(("when", cond, one, two), known, wanted)])

    def test_some_of_them_written_out(self):
        legs = (("sum", X, ONE), ("less", X, ONE))
        short = (("sum", X, ONE), ("sum", X, num(-1)))
        self.assert_folded([
            (("when", Y, *legs), {"y": 5}, short[0]), (("when", Y, *legs), {"y": -1}, short[0]),
            (("when", Y, *legs), {"y": 0}, short[1]), (("when", Y, *legs), {}, ("when", Y, *short)),
            (("when", Y, *legs), {"x": 3}, ("when", Y, num(4), num(2))),
            (("when", Y, *legs), {"x": 3, "y": 0}, num(2)),
            (("when", ("same", NOUGHT, Y), *legs), {}, ("when", Y, short[1], short[0])),
            (("when", ("same", Y, Z), *legs), {"z": 0}, ("when", Y, short[1], short[0])),
            (("when", ("same", Y, Z), *legs), {"y": 0}, ("when", Z, short[1], short[0])),
            (("when", ("same", Y, Z), *legs), {"y": 1}, ("when", ("same", Z, ONE), *short)),
            (("when", ("same", ("same", NOUGHT, Y), Z), *legs), {"z": 0}, ("when", Y, *short)),
            (("when", X, Y, Y), {}, ("when", X, Y, Y)), (("when", X, Y, Z), {"y": 2, "z": 2}, ("when", X, num(2),
            num(2)))])

    def test_a_refused_leg_that_is_not_taken_is_left_out(self):
        self.assert_folded([(("when", X, Y, BY_NOUGHT), {"x": 1}, Y), (("when", X, TOO_GREAT, Y), {"x": 0}, Y),
                            (("when", X, BY_NOUGHT, Y), {"x": 1}, BY_NOUGHT)])


class Lets(Folding):

    def test_a_let_of_a_number_becomes_its_second_expression(self):
        self.assert_folded([
            (("let", "x", num(5), X), {}, num(5)), (("let", "x", NOUGHT, ("sum", X, Y)), {}, Y),
            (("let", "x", num(5), ("sum", X, Y)), {}, ("sum", Y, num(5))), (("let", "x", num(5), Y), {}, Y),
            (("let", "x", num(5), ("sum", X, Y)), {"y": 2}, num(7)), (("let", "x", Y, ("times", X, X)), {"y": 3},
            num(9)),
            (("let", "x", ("sum", Y, Z), ("times", X, Y)), {"y": 3, "z": 1}, num(12)),
            (("let", "x", num(5), BY_NOUGHT), {}, BY_NOUGHT), (("let", "x", NOUGHT, ("part", ONE, X)), {}, BY_NOUGHT)])

    def test_its_number_comes_before_what_is_known_outside(self):
        self.assert_folded([
            (("let", "x", num(5), X), {"x": 3}, num(5)), (("let", "x", NOUGHT, X), {"x": 3}, NOUGHT),
            (("let", "x", ("sum", X, ONE), ("times", X, num(10))), {"x": 4}, num(50)),
            (("let", "x", X, X), {"x": 3}, num(3)), (("let", "x", num(5), ("sum", X, Y)), {"x": 3}, ("sum", Y,
            num(5)))])

    def test_another_let_stays_with_its_name_unknown(self):
        self.assert_folded([
            (("let", "x", Y, X), {}, ("let", "x", Y, X)), (("let", "x", Y, X), {"x": 3}, ("let", "x", Y, X)),
            (("let", "x", ("sum", Y, X), ("sum", X, Z)), {"x": 3, "z": 4},
             ("let", "x", ("sum", Y, num(3)), ("sum", X, num(4)))),
            (("let", "x", X, X), {}, ("let", "x", X, X)), (("let", "x", Y, num(5)), {"x": 3}, ("let", "x", Y, num(5))),
            (("let", "x", Y, Z), {"z": 5}, ("let", "x", Y, num(5))), (("let", "x", Y, ("sum", ONE, X)), {}, ("let",
            "x", Y, ("sum", X, ONE))),
            (("let", "x", BY_NOUGHT, X), {"x": 3}, ("let", "x", BY_NOUGHT, X)),
            (("let", "x", TOO_GREAT, num(7)), {}, ("let", "x", TOO_GREAT, num(7)))])

    def test_behind_a_let_what_is_known_holds_again(self):
        for let, wanted in ((("let", "x", num(5), X), num(8)),
                            (("let", "x", Y, X), ("sum", ("let", "x", Y, X), num(3)))):
            self.assert_folded([(("sum", let, X), {"x": 3}, wanted), (("sum", X, let), {"x": 3}, wanted)])
        self.assert_folded([
            (("when", ("let", "x", Y, X), X, ("let", "x", Y, ("sum", X, ONE))), {"x": 3},
             ("when", ("let", "x", Y, X), num(3), ("let", "x", Y, ("sum", X, ONE)))),
            (("let", "z", ("let", "x", Y, X), X), {"x": 3}, ("let", "z", ("let", "x", Y, X), num(3))),
            (("let", "z", ("let", "x", num(5), X), ("sum", X, Z)), {}, ("sum", X, num(5)))])

    def test_a_let_of_a_number_within_a_let_of_an_expression(self):
        self.assert_folded([
            (("let", "x", Y, ("let", "z", num(2), ("times", X, Z))), {}, ("let", "x", Y, ("times", X, num(2)))),
            (("let", "x", Y, ("let", "z", num(2), ("times", X, Z))), {"x": 9, "z": 8}, ("let", "x", Y, ("times", X,
            num(2)))),
            (("let", "x", ("let", "z", num(2), ("sum", Z, Y)), ("sum", X, Z)), {"z": 4},
             ("let", "x", ("sum", Y, num(2)), ("sum", X, num(4)))),
            (("let", "x", Y, ("let", "z", X, ("times", X, Z))), {"x": 9, "z": 8},
             ("let", "x", Y, ("let", "z", X, ("times", X, Z))))])

    def test_a_let_of_an_expression_within_a_let_of_a_number(self):
        self.assert_folded([
            (("let", "x", num(2), ("let", "z", Y, ("times", X, Z))), {"x": 9, "z": 8}, ("let", "z", Y, ("times", Z,
            num(2)))),
            (("let", "x", num(2), ("let", "z", ("sum", X, Y), Z)), {}, ("let", "z", ("sum", Y, num(2)), Z)),
            (("let", "x", num(2), ("let", "z", ("sum", X, ONE), ("times", X, Z))), {}, num(6))])

    def test_lets_of_one_name_within_one_another(self):
        self.assert_folded([
            (("let", "x", num(2), ("let", "x", ("sum", X, ONE), ("times", X, X))), {"x": 9}, num(9)),
            (("let", "x", num(2), ("sum", ("let", "x", num(7), X), X)), {"x": 9}, num(9)),
            (("let", "x", num(2), ("let", "x", ("sum", X, Y), ("times", X, num(3)))), {"x": 9},
             ("let", "x", ("sum", Y, num(2)), ("times", X, num(3)))),
            (("let", "x", Y, ("let", "x", num(7), ("sum", X, Z))), {"x": 9}, ("let", "x", Y, ("sum", Z, num(7)))),
            (("let", "x", Y, ("sum", ("let", "x", num(7), X), X)), {"x": 9}, ("let", "x", Y, ("sum", X, num(7)))),
            (("let", "x", Y, ("let", "x", X, X)), {"x": 9}, ("let", "x", Y, ("let", "x", X, X))),
            (("let", "x", ("let", "x", X, ("sum", X, Y)), X), {"x": 9}, ("let", "x", ("sum", Y, num(9)), X)),
            (("let", "x", ("let", "x", Y, X), X), {"x": 9}, ("let", "x", ("let", "x", Y, X), X))])


class NotAhead(Folding):
    """Point 11."""

    def test_unlike_signs(self):
        self.assert_folded([
            (("sum", ("sum", X, num(3)), num(-3)), {}, ("sum", ("sum", X, num(3)), num(-3))),
            (("less", ("sum", X, num(3)), num(2)), {}, ("sum", ("sum", X, num(3)), num(-2))),
            (("sum", num(3), ("less", X, num(3))), {}, ("sum", ("sum", X, num(-3)), num(3))),
            (("sum", ("less", Y, X), num(-4)), {"y": 4}, ("sum", ("less", num(4), X), num(-4)))])
        # As it may be refused: the first step goes beyond the limit.
        for expr, x in ((("sum", ("sum", X, num(3)), num(-3)), LIMIT), (("less", ("less", X, num(3)), num(-3)),
                                                                        -LIMIT)):
            self.assertNotEqual(outcome(folded(expr, {}), {"x": x}), x)

    def test_a_product_with_0(self):
        self.assert_folded([
            (("times", X, NOUGHT), {}, ("times", X, NOUGHT)), (("times", NOUGHT, X), {}, ("times", X, NOUGHT)),
            (("times", BY_NOUGHT, NOUGHT), {}, ("times", BY_NOUGHT, NOUGHT)),
            (("times", ("times", X, num(3)), Y), {"y": 0}, ("times", ("times", X, num(3)), NOUGHT)),
            (("times", X, Y), {"x": 0, "y": 5}, NOUGHT)])

    def test_two_equal_parts(self):
        for word in WORDS_OF_TWO:
            for part in (X, ("sum", X, Y), BY_NOUGHT):
                self.assert_folded([((word, part, part), {}, (word, part, part))])
        self.assert_folded([(("when", X, Y, Y), {}, ("when", X, Y, Y)), (("less", X, X), {"x": 4}, NOUGHT)])

    def test_folding_refuses_nothing(self):
        refused = (BY_NOUGHT, TOO_GREAT, ("rest", num(5), NOUGHT), ("less", num(-LIMIT), ONE),
                   ("times", num(LIMIT), num(-2)), ("part", NOUGHT, NOUGHT))
        for part in refused:
            self.assert_folded([(part, {}, part), (("sum", part, X), {}, ("sum", part, X)),
                                (("sum", X, part), {}, ("sum", X, part)), (("when", part, X, Y), {}, ("when", part, X,
                                Y)),
                                (("let", "x", part, X), {}, ("let", "x", part, X))])
        self.assert_folded([
            (("part", X, Y), {"x": 1, "y": 0}, BY_NOUGHT), (("sum", X, Y), {"x": LIMIT, "y": 1}, TOO_GREAT),
            (("sum", Y, ("part", X, Y)), {"x": 1, "y": 0}, BY_NOUGHT),
            (("times", num(2), ("part", X, Y)), {"x": 1, "y": 0}, ("times", BY_NOUGHT, num(2))),
            (("rest", ("sum", X, X), ("part", X, Y)), {"x": LIMIT, "y": 0},
             ("rest", ("sum", num(LIMIT), num(LIMIT)), ("part", num(LIMIT), NOUGHT)))])


class ComesToTheSame(unittest.TestCase):
    """Points 9 and 10, over many expressions."""

    def setUp(self):
        self.maker = Maker(20)
        self.asked = [(self.maker.expr(), self.maker.numbers(at % 11)) for at in range(3000)]

    def test_what_is_asked_is_worth_asking(self):
        words = {part[0] for expr, _ in self.asked for part in everything_in(expr)}
        self.assertEqual(words, {*WORDS_OF_TWO, "num", "name", "when", "let"})
        outcomes = [outcome(expr, self.maker.numbers(8)) for expr, _ in self.asked]
        kinds = [told[0].__name__ if isinstance(told, tuple) else "number" for told in outcomes]
        for kind in ("number", "Unset", "ByNought", "TooGreat"):
            self.assertGreater(kinds.count(kind), 150)
        shorter = [expr for expr, known in self.asked if size(folded(expr, known)) < size(expr)]
        self.assertGreater(len(shorter), 1500)

    def test_the_same_number_or_the_same_refusal(self):
        for expr, known in self.asked:
            short = folded(expr, known)
            for chance in (10, 9, 5, 0):
                setting = {**self.maker.numbers(chance), **known}
                self.assertEqual(outcome(short, setting), outcome(expr, setting), (expr, known, setting))

    def test_none_of_the_known_names_is_needed(self):
        for expr, known in self.asked:
            short = folded(expr, known)
            wanted = [name for name in needs(expr) if name not in known]
            self.assertLessEqual(set(needs(short)), set(wanted), (expr, known))

    def test_with_every_name_known_it_is_reckoned_or_refused(self):
        for expr, _ in self.asked:
            known = self.maker.numbers(10)
            told, short = outcome(expr, known), folded(expr, known)
            self.assertEqual(needs(short), [])
            if short[0] == "num":
                self.assertEqual(told, short[1])
            self.assertEqual(outcome(short, {}), told)

    def test_folded_again_it_is_itself(self):
        for expr, known in self.asked:
            short = folded(expr, known)
            self.assertEqual(folded(short, {}), short, (expr, known))
            self.assertEqual(folded(short, known), short, (expr, known))

    def test_its_size_is_no_greater(self):
        for expr, known in self.asked:
            short = folded(expr, known)
            self.assertLessEqual(size(short), size(expr), (expr, known))
            self.assertLessEqual(deep(short), deep(expr), (expr, known))

    def test_every_part_of_it_is_short_too(self):
        for expr, known in self.asked:
            for part in everything_in(folded(expr, known)):
                self.assertEqual(folded(part, {}), part, (expr, known))

    def test_step_by_step_or_at_once_it_comes_to_the_same(self):
        for expr, known in self.asked:
            step = expr
            for name in known:
                step = folded(step, {name: known[name]})
            setting = {**self.maker.numbers(9), **known}
            self.assertEqual(outcome(step, setting), outcome(expr, setting), (expr, known))

    def test_the_rules_that_make_numbers_into_one_are_right_at_the_limit(self):
        numbers = (0, 1, -1, 2, -2, 3, 6, -6, 9, LIMIT // 2, -LIMIT // 2, LIMIT - 1, 1 - LIMIT, LIMIT, -LIMIT)
        for inner in WORDS_OF_TWO:
            for outer in WORDS_OF_TWO:
                for m in numbers:
                    for n in numbers:
                        for expr in ((outer, (inner, X, num(m)), num(n)), (outer, (inner, num(m), X), num(n))):
                            short = folded(expr, {})
                            for x in (-LIMIT, 1 - LIMIT, -7, -1, 0, 1, 5, LIMIT - 1, LIMIT):
                                told = outcome(short, {"x": x})
                                if told != outcome(expr, {"x": x}):
                                    self.fail((expr, x, told))


class KnownNumbers(unittest.TestCase):

    EXPR = ("sum", ("let", "x", ("sum", X, Y), ("let", "w", num(2), ("times", X, ("name", "w")))), ("when", Z, X, Y))

    def test_the_dict_is_as_it_was(self):
        lets = (("let", "x", num(9), X), ("let", "x", Y, X), ("let", "w", num(9), ("name", "q")), ("let", "w", Z, Y))
        for expr in (self.EXPR, X, ONE, BY_NOUGHT, ("name", "q"), *lets):
            for known in ({}, {"x": 2, "y": 1, "z": 6}, {"w": 4, "x": 2}, {"z": 6, "q": 0}):
                with self.subTest(expr=expr, known=known):
                    before = copy.deepcopy(known)
                    folded(expr, known)
                    self.assertEqual(list(known.items()), list(before.items()))

    def test_other_names_count_for_nothing(self):
        for more in ({"q": 5}, {"a": LIMIT, "xx": 1, "sum": 0, "w": 77, "num": -3}):
            for known in ({}, {"x": 2}, {"y": 4, "z": 0}):
                with self.subTest(known=known, more=more):
                    self.assertEqual(folded(self.EXPR, {**more, **known}), folded(self.EXPR, known))

    def test_each_answer_is_by_what_the_dict_holds_then(self):
        known = {"x": 2}
        first = folded(self.EXPR, known)
        first_told = repr(first)
        known["x"] = 4
        second = folded(self.EXPR, known)
        known["y"] = 1
        third = folded(self.EXPR, known)
        known["z"] = 0
        fourth = folded(self.EXPR, known)
        known.clear()
        fifth = folded(self.EXPR, known)
        known["x"] = 2
        self.assertEqual(folded(self.EXPR, known), first)
        self.assertEqual(repr(first), first_told)
        self.assertEqual(first, ("sum", ("let", "x", ("sum", Y, num(2)), ("times", X, num(2))), ("when", Z, num(2), Y)))
        self.assertEqual(second, ("sum", ("let", "x", ("sum", Y, num(4)), ("times", X, num(2))), ("when", Z, num(4),
                                                                                                  Y)))
        self.assertEqual(third, ("sum", ("when", Z, num(4), ONE), num(10)))
        self.assertEqual(fourth, num(11))
        self.assertEqual(fifth, ("sum", ("let", "x", ("sum", X, Y), ("times", X, num(2))), ("when", Z, X, Y)))

    def test_the_expression_is_as_it_was(self):
        before = repr(self.EXPR)
        folded(self.EXPR, {"x": 2, "y": 1})
        self.assertEqual(repr(self.EXPR), before)


class AtTheLimits(unittest.TestCase):

    def test_just_60_deep(self):
        for place, put in places():
            for known in ({}, {"x": 3}, {"x": 0, "y": 1}):
                with self.subTest(place=place, known=known):
                    expr = put_around(put, 60)
                    self.assertEqual(deep(expr), 60)
                    short = folded(expr, known)
                    self.assertEqual(folded(short, known), short)
                    setting = {"x": 3, "y": 2, **known}
                    self.assertEqual(outcome(short, setting), outcome(expr, setting))
        for place in ("first", "middle", "last"):
            with self.subTest(place=place):
                short = folded(nested(60, place), {})
                self.assertEqual(outcome(short, {"x": 3}), outcome(nested(60, place), {"x": 3}))

    def test_just_60_deep_written_out(self):
        for expr, wanted in (
                (put_around(lambda part: ("sum", part, ONE), 60), ("sum", X, num(59))),
                (put_around(lambda part: ("sum", ONE, part), 60), ("sum", X, num(59))),
                (put_around(lambda part: ("less", part, ONE), 60), ("sum", X, num(-59))),
                (put_around(lambda part: ("times", part, num(-1)), 60), ("times", X, num(-1))),
                (put_around(lambda part: ("rest", part, num(4)), 60), ("rest", X, num(4))),
                (put_around(lambda part: ("let", "x", ONE, part), 60), ONE),
                (put_around(lambda part: ("let", "x", part, ("sum", X, ONE)), 59, ONE), num(59)),
                (put_around(lambda part: ("sum", part, X), 60), put_around(lambda part: ("sum", part, X), 60)),
                (put_around(lambda part: ("let", "x", part, X), 60), put_around(lambda part: ("let", "x", part, X),
                60)),
                (put_around(lambda part: ("let", "y", X, part), 60), put_around(lambda part: ("let", "y", X, part),
                60))):
            with self.subTest(expr=expr):
                self.assertEqual(folded(expr, {}), wanted)

    def test_rests_that_all_go_at_once(self):
        # None of them is divided by the next one, but each by 1.
        rests = X
        for m in range(118, 60, -1):
            rests = ("rest", rests, num(m))
        self.assertEqual(deep(rests), 59)
        self.assertEqual(folded(rests, {}), rests)
        self.assertEqual(folded(("rest", rests, ONE), {}), ("rest", X, ONE))
        self.assertEqual(folded(("rest", rests, Y), {"y": 1}), ("rest", X, ONE))

    def test_a_size_of_200(self):
        expr = ("when", X, summed([X] * 99), ONE)
        self.assertEqual(size(expr), 200)
        self.assertEqual(folded(expr, {}), expr)
        self.assertEqual(folded(expr, {"x": 3}), num(297))
        self.assertEqual(folded(expr, {"x": 0}), ONE)
        lets = X
        for _ in range(49):
            lets = ("let", "x", ("sum", X, ONE), lets)
        self.assertEqual(size(lets), 197)
        self.assertEqual(folded(lets, {}), lets)
        self.assertEqual(folded(lets, {"x": 0}), num(49))


if __name__ == "__main__":
    unittest.main()
