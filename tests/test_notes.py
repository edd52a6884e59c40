"""shown and read: points 12 to 14."""

import inspect
import re
import unittest

from foldercode import notes
from foldercode.errors import BadText, ByNought, FoldError, TooGreat, Unset
from foldercode.notes import read, shown
from foldercode.trees import LIMIT, deep, size
from making import NAMES_LIKE_WORDS, ONE, WORDS_OF_TWO, X, Y, Z, Maker, nested, num, places, put_around, summed

NUMBERS = ((0, "0"), (1, "1"), (-1, "-1"), (9, "9"), (10, "10"), (-10, "-10"), (100, "100"), (12345, "12345"),
           (-987654321, "-987654321"), (999999999, "999999999"), (-999999999, "-999999999"),
           (LIMIT, "1000000000"), (-LIMIT, "-1000000000"))
NAMES = ("a", "z", "x", "ab", "zz", "abcdefgh", "zzzzzzzz", "aaaaaaaa", *NAMES_LIKE_WORDS)

# Expressions with the texts that write them.
PAIRS = [
    *[(num(number), text) for number, text in NUMBERS],
    *[(("name", name), name) for name in NAMES],
    *[((word, X, num(-3)), f"({word} x -3)") for word in WORDS_OF_TWO],
    *[((word, (word, X, Y), (word, Y, X)), f"({word} ({word} x y) ({word} y x))") for word in WORDS_OF_TWO],
    *[(("let", name, ("name", name), ONE), f"(let {name} {name} 1)") for name in NAMES],
    *[(("sum", ("name", name), num(0)), f"(sum {name} 0)") for name in NAMES],
    (("when", X, Y, Z), "(when x y z)"),
    (("when", ("sum", X, ONE), ("sum", X, num(2)), ("sum", X, num(3))), "(when (sum x 1) (sum x 2) (sum x 3))"),
    (("when", ("when", X, Y, Z), ONE, ("when", ONE, X, Y)), "(when (when x y z) 1 (when 1 x y))"),
    (("let", "w", X, Y), "(let w x y)"),
    (("let", "x", ("let", "y", ONE, Y), ("let", "z", X, Z)), "(let x (let y 1 y) (let z x z))"),
    (("let", "let", ("name", "sum"), ("sum", ("name", "let"), ("name", "num"))), "(let let sum (sum let num))"),
    (("sum", ("less", ("times", X, num(2)), ("part", Y, num(-3))), ("let", "k", num(0), ("rest", Z, ("name", "k")))),
     "(sum (less (times x 2) (part y -3)) (let k 0 (rest z k)))"),
]


def is_right(text):
    """Whether a text writes an expression, by putting what is whole together.

    This goes from the innermost brackets outwards, other than `read`. A `#`
    stands for an expression that was put together, with its depth behind it.
    """
    if "#" in text:
        return False
    number = "(?:0|-?[1-9][0-9]{0,8}|-?1000000000)"
    text = re.sub(f"(?<![^ (])(?<!\\(let )(?<!\\()(?:{number}|[a-z]{{1,8}})(?![^ )])", "#1#", text)
    part = "#([0-9]+)#"
    head = f"(?:{'|'.join(WORDS_OF_TWO)}|let [a-z]{{1,8}})"
    bracket = re.compile(f"\\((?:{head} {part} {part}|when {part} {part} {part})\\)")

    def one_deeper(found):
        return f"#{1 + max(int(levels) for levels in found.groups() if levels)}#"

    while bracket.search(text):
        text = bracket.sub(one_deeper, text)
    whole = re.fullmatch(part, text)
    return whole is not None and int(whole[1]) <= 60 and "\n" not in text


class Reading(unittest.TestCase):

    def assert_bad(self, text):
        with self.subTest(text=text[:80]):
            with self.assertRaises(FoldError) as caught:
                read(text)
            self.assertIs(type(caught.exception), BadText)
            self.assertIsInstance(caught.exception, ValueError)
            for other in (Unset, ByNought, TooGreat):
                self.assertNotIsInstance(caught.exception, other)


class Interface(unittest.TestCase):

    def test_the_functions_are_defined_in_this_file_with_these_arguments(self):
        for name, arguments in (("shown", ["expr"]), ("read", ["text"])):
            with self.subTest(name=name):
                function = getattr(notes, name)
                self.assertEqual(function.__module__, "foldercode.notes")
                self.assertEqual(list(inspect.signature(function).parameters), arguments)

    def test_the_arguments_by_their_names(self):
        self.assertEqual(shown(expr=X), "x")
        self.assertEqual(read(text="x"), X)

    def test_the_kinds_of_the_answers(self):
        for expr, text in PAIRS:
            with self.subTest(text=text):
                self.assertIs(type(shown(expr)), str)
                self.assert_kinds(read(text))

    def assert_kinds(self, expr):
        self.assertIs(type(expr), tuple)
        self.assertIs(type(expr[0]), str)
        if expr[0] == "num":
            self.assertIs(type(expr[1]), int)
        elif expr[0] == "name":
            self.assertIs(type(expr[1]), str)
        elif expr[0] == "let":
            self.assertIs(type(expr[1]), str)
            self.assert_kinds(expr[2])
            self.assert_kinds(expr[3])
        else:
            for part in expr[1:]:
                self.assert_kinds(part)


class BothWays(unittest.TestCase):

    def test_what_is_written(self):
        for expr, text in PAIRS:
            with self.subTest(text=text):
                self.assertEqual(shown(expr), text)

    def test_what_is_read(self):
        for expr, text in PAIRS:
            with self.subTest(text=text):
                self.assertEqual(read(text), expr)

    def test_over_many_expressions(self):
        maker = Maker(13)
        for _ in range(2000):
            expr = maker.expr()
            text = shown(expr)
            self.assertEqual(read(text), expr)
            self.assertTrue(is_right(text), text)
            self.assertTrue(text.isascii())

    def test_again_and_again_the_same(self):
        expr, text = PAIRS[-1]
        for _ in range(3):
            self.assertEqual(shown(expr), text)
            self.assertEqual(read(text), expr)

    def test_over_many_numbers(self):
        for number in (*range(-1200, 1200), *range(LIMIT - 20, LIMIT + 1), *range(-LIMIT, 20 - LIMIT)):
            self.assertEqual(shown(num(number)), f"{number:d}")
            self.assertEqual(read(f"{number:d}"), num(number))

    def test_each_letter_and_each_figure(self):
        for letter in "abcdefghijklmnopqrstuvwxyz":
            for name in (letter, letter * 2, letter * 8, "a" + letter, letter + "a", "abc" + letter + "xyz"):
                for expr, text in ((("name", name), name), (("sum", ("name", name), ONE), f"(sum {name} 1)"),
                                   (("let", name, ONE, ("name", name)), f"(let {name} 1 {name})")):
                    with self.subTest(text=text):
                        self.assertEqual(read(text), expr)
                        self.assertEqual(shown(expr), text)
        for figure in range(1, 10):
            for number in (figure, -figure, figure * 111111111, -figure * 111111111, figure * 100 + 1, 100 + figure):
                with self.subTest(number=number):
                    self.assertEqual(read(f"{number:d}"), num(number))

    def test_each_place(self):
        for place, put in places():
            for part, text in ((num(-40), "-40"), (("name", "sum"), "sum"), (("when", X, Y, Z), "(when x y z)")):
                with self.subTest(place=place, text=text):
                    wanted = shown(put(("name", "hole"))).replace("hole", text)
                    self.assertEqual(shown(put(part)), wanted)
                    self.assertEqual(read(wanted), put(part))


class BadPieces(Reading):

    def assert_bad_everywhere(self, pieces):
        """None of the pieces writes an expression, alone or within another one."""
        for piece in pieces:
            for text in (piece, f"(sum {piece} x)", f"(sum x {piece})", f"(when {piece} x y)", f"(when x y {piece})",
                         f"(let w {piece} x)", f"(let w x {piece})", f"(sum (less {piece} 1) 2)"):
                self.assert_bad(text)

    def test_numbers_that_are_not_written_so(self):
        self.assert_bad_everywhere([
            "-0", "00", "-00", "000", "01", "-01", "007", "0000000001", "-", "--1", "--", "-1-", "1-", "1-2", "+1",
            "+0",
            "+", "1.0", "1.", ".5", "1e3", "0x1", "1_0", "1_000", "_1", "1,0", "1000 000", "5L", "0b1", "0o7", "1j",
            "- 1"])

    def test_numbers_beyond_the_limit(self):
        self.assert_bad_everywhere([
            "1000000001", "-1000000001", "1000000010", "1999999999", "2000000000", "9999999999", "-9999999999",
            "10000000000", "-10000000000", "9" * 11, "9" * 100, "1" + "0" * 5000, "-" + "9" * 5000, "0" * 5000])

    def test_names_that_are_none(self):
        self.assert_bad_everywhere([
            "abcdefghi", "a" * 9, "a" * 100, "whenever" + "s", "X", "Sum", "aB", "xY", "x1", "1x", "a_b", "_a", "a-b",
            "-a",
            "a-", "a.b", "a'", "x,", "x;", "\"x\"", "'x'", "x!", "[x]", "{x}", "#", "x#", "`", "{", "|", "@", "A", "Z"])

    def test_signs_that_are_not_ascii(self):
        self.assert_bad_everywhere([
            "\u00e4", "x\u00e4", "\u00df", "\u0661", "1\u0661", "\u00b2", "1\u00b2", "\uff11", "\u2212" + "1", "\u00aa",
            "\u03b1", "\uff41", "\u0131", "\U0001d7d9", "x\u00a0", "\u00a0", "x\u200b", "\ufeff" + "x"])

    def test_the_name_of_a_let(self):
        for name in ("", "1", "-1", "0", "abcdefghi", "X", "x1", "aB", "a_b", "(name x)", "(sum x 1)", "()", "\u00e4",
                     "x\t"):
            self.assert_bad(f"(let {name} 1 2)")


class BadBrackets(Reading):

    def test_an_unknown_word_at_the_head(self):
        for word in ("add", "num", "name", "Sum", "SUM", "su", "summ", "sums", "lets", "le", "whe", "whens", "x", "1",
                     "-",
                     "", "plus", "minus", "same1", "sum-", "\u017fum", "belo", "+", "*", "if", "not"):
            for rest in ("", " ", " 1", " x", " x 1", " x y z", " x 1 2 3"):
                self.assert_bad(f"({word}{rest})")
        for word in WORDS_OF_TWO:
            self.assert_bad(f"({word.upper()} x y)")
            self.assert_bad(f"({word.title()} x y)")
            self.assert_bad(f"({word}s x y)")
            self.assert_bad(f"({word[:-1]} x y)")
            self.assert_bad(f"(({word}) x y)")
            self.assert_bad(f"({word}(x) y)")

    def test_too_few_or_too_many_parts(self):
        for word, right in (*[(word, 2) for word in WORDS_OF_TWO], ("when", 3), ("let a", 2), ("let let", 2)):
            for part in ("1", "x", "(sum x 1)"):
                for count in range(8):
                    text = "(" + " ".join([word] + [part] * count) + ")"
                    if count == right:
                        self.assertEqual(shown(read(text)), text)
                    else:
                        self.assert_bad(text)
        for text in ("(let)", "(let x)", "(let x 1)", "(let 1 2)", "(let x 1 2 3)", "(let x y z x)",
                     "(let (sum x 1) 2)"):
            self.assert_bad(text)

    def test_a_bracket_too_few_or_too_many(self):
        for text in ("(", ")", "()", "(()", "())", ")(", "(sum", "(sum ", "(sum x", "(sum x ", "(sum x y", "sum x y)",
                     "(sum x y))", "((sum x y)", "((sum x y))", "(sum (x) y)", "(x)", "(1)", "((x))",
                     "(sum x (less x y)",
                     "(sum x less x y)", "(sum x (less x y)))", "(sum (less x y) z", "(sum x y)(", "(let x 1",
                     "(when x y z",
                     "(let (x) 1 2)", "(sum x) y)", "(sum x y z)", "[sum x y]", "(sum x y]", "{sum x y}", "sum x y",
                     "x y"):
            self.assert_bad(text)

    def test_anything_behind_the_expression(self):
        for _, text in PAIRS:
            for more in (" ", ")", "(", "\n", "\t", " 1", " x", "()", " (sum x y)", "(sum x y)", "\r\n", "\x00", ",",
                         ";", " )"):
                self.assert_bad(text + more)


class BadBlanks(Reading):

    def test_two_blanks_in_each_place_of_one(self):
        for _, text in PAIRS:
            for at, sign in enumerate(text):
                if sign == " ":
                    self.assert_bad(text[:at] + " " + text[at:])

    def test_another_sign_in_each_place_of_a_blank(self):
        for _, text in PAIRS:
            for at, sign in enumerate(text):
                if sign == " ":
                    for other in ("\t", "\n", "\r", "\r\n", "\x0b", "\x0c", "\x1f", "\x00", ",", "_", "\u00a0",
                                  "\u2003", ""):
                        changed = text[:at] + other + text[at + 1:]
                        self.assert_bad(changed)

    def test_a_blank_at_either_end_or_beside_a_bracket(self):
        for _, text in PAIRS:
            for blank in (" ", "\t", "\n", "\r", "  "):
                self.assert_bad(blank + text)
                self.assert_bad(text + blank)
                for at, sign in enumerate(text):
                    if sign == "(":
                        self.assert_bad(text[:at + 1] + blank + text[at + 1:])
                    if sign == ")":
                        self.assert_bad(text[:at] + blank + text[at:])

    def test_no_blank_beside_a_bracket_within(self):
        for text in ("(sum(less x y) z)", "(sum (less x y)z)", "(sum (less x y)(less y x))", "(sum x(less x y))",
                     "(let w(sum x y) 1)", "(let w (sum x y)1)", "(when(sum x y) 1 2)", "(when 1(sum x y) 2)"):
            self.assert_bad(text)

    def test_the_empty_text_and_blanks_alone(self):
        for text in ("", " ", "  ", "\n", "\t", "\r\n", "\x00", "( )", " ()", "(  )", "\n\n"):
            self.assert_bad(text)

    def test_a_tab_or_a_line_end_at_the_very_end(self):
        for text in ("x", "1", "-1", "0", "(sum x 1)", "(let x 1 2)", "(when x 1 y)"):
            for end in ("\n", "\t", "\r", "\r\n", "\n\n", " \n", "\x0b", "\x0c", "\x1c", "\x85", "\u2028"):
                self.assert_bad(text + end)
                self.assert_bad(end + text)


class OneSignChanged(Reading):

    SIGNS = "()  -0159amxyzAZ_.,+#\t\n\r\x00\u00e4\u0661"
    TEXTS = ("0", "7", "-1", "10", "1000000000", "-1000000000", "999999999", "x", "abcdefgh", "sum", "(sum x 1)",
             "(less 10 -1)", "(times abcdefgh 1000000000)", "(part x (rest y 2))", "(below (same x 0) z)",
             "(when x y z)",
             "(when (sum x 0) -1 (let w 5 w))", "(let w x y)", "(let abcdefgh 1000000000 (sum abcdefgh -10))",
             "(let let (let let let let) (sum num name))")

    def assert_read_as_it_is_right(self, text):
        """A text is read just if it is right, and then it is the text of what was read."""
        if is_right(text):
            self.assertEqual(shown(read(text)), text)
            return 1
        try:
            told = read(text)
        except FoldError as error:
            self.assertIs(type(error), BadText)
            return 0
        return self.fail((text, told))

    def test_one_sign_left_out(self):
        for text in self.TEXTS:
            self.assertEqual(self.assert_read_as_it_is_right(text), 1)
            for at in range(len(text)):
                self.assert_read_as_it_is_right(text[:at] + text[at + 1:])

    def test_one_sign_put_in(self):
        for text in self.TEXTS:
            for at in range(len(text) + 1):
                for sign in self.SIGNS:
                    self.assert_read_as_it_is_right(text[:at] + sign + text[at:])

    def test_one_sign_exchanged(self):
        for text in self.TEXTS:
            for at in range(len(text)):
                for sign in self.SIGNS:
                    self.assert_read_as_it_is_right(text[:at] + sign + text[at + 1:])

    def test_two_neighbours_changed_about(self):
        for text in self.TEXTS:
            for at in range(len(text) - 1):
                self.assert_read_as_it_is_right(text[:at] + text[at + 1] + text[at] + text[at + 2:])

    def test_cut_off_at_each_place(self):
        for text in self.TEXTS:
            for at in range(len(text)):
                self.assert_read_as_it_is_right(text[:at])
                self.assert_read_as_it_is_right(text[at + 1:])
                if text[0] == "(":
                    self.assert_bad(text[:at])

    def test_over_many_texts(self):
        maker = Maker(4)
        right = 0
        for _ in range(4000):
            text = shown(maker.expr())
            at = maker.upto(len(text) + 1)
            sign = maker.one_of(self.SIGNS)
            kept = at + maker.upto(2) if maker.upto(3) else at + 1
            changed = text[:at] + (sign if maker.upto(3) else "") + text[kept:]
            right += self.assert_read_as_it_is_right(changed)
        # Both kinds have come up, right ones and wrong ones.
        self.assertGreater(right, 200)
        self.assertLess(right, 3800)


class Depth(Reading):

    def test_60_deep_is_read_and_61_deep_refused(self):
        for place, put in places():
            with self.subTest(place=place):
                for expr in (X, num(-5)):
                    right = put_around(put, 60, expr)
                    self.assertEqual(deep(right), 60)
                    self.assertEqual(read(shown(right)), right)
                    self.assertEqual(read(shown(put_around(put, 59, expr))), put_around(put, 59, expr))
                    self.assert_bad(shown(put_around(put, 61, expr)))
                    self.assert_bad(shown(put_around(put, 62, expr)))
                    self.assert_bad(shown(put_around(put, 100, expr)))

    def test_the_words_within_one_another(self):
        for place in ("first", "middle", "last"):
            with self.subTest(place=place):
                self.assertEqual(read(shown(nested(60, place))), nested(60, place))
                self.assert_bad(shown(nested(61, place)))

    def test_one_branch_too_deep_beside_one_that_is_not(self):
        right, wrong = nested(59, "last"), nested(60, "last")
        for expr in (("sum", right, right), ("when", right, right, right), ("let", "x", right, right)):
            self.assertEqual(read(shown(expr)), expr)
        for expr in (("sum", wrong, ONE), ("sum", ONE, wrong), ("when", wrong, right, ONE), ("when", ONE, wrong, right),
                     ("when", ONE, right, wrong), ("let", "x", right, wrong), ("let", "x", wrong, right)):
            self.assert_bad(shown(expr))

    def test_1000_deep_and_much_deeper(self):
        for levels in (1000, 5000, 100000):
            for head in ("sum ", "sum 1 ", "when ", "when x ", "when x y ", "let w ", "let w 1 "):
                begun = f"({head}" * (levels - 1)
                tail = " 1)" if head in ("sum ", "when x ", "let w ") else " 1 2)" if head == "when " else ")"
                self.assert_bad(begun + "x" + tail * (levels - 1))
                self.assert_bad(begun + "x")
                self.assert_bad(begun)
                self.assert_bad(begun[:-1])
                self.assert_bad(begun[:len(begun) // 2])

    def test_brackets_alone(self):
        for count in (1, 60, 61, 1000, 100000):
            for text in ("(" * count, ")" * count, "(" * count + ")" * count, "(" * count + "x" + ")" * count,
                         "() " * count, "(sum" * count, "( " * count, "x" * 9 * count, "1" * 11 * count, " " * count):
                self.assert_bad(text)

    def test_cut_off_just_60_and_61_deep(self):
        for place, put in places():
            with self.subTest(place=place):
                for levels in (60, 61):
                    text = shown(put_around(put, levels))
                    for at in range(1, len(text), 7):
                        self.assert_bad(text[:at])


class Sizes(unittest.TestCase):

    def test_a_size_of_200(self):
        for expr in (("when", X, summed([num(-LIMIT)] * 99), ONE), ("when", X, summed([("name", "abcdefgh")] * 99),
                                                                    ONE)):
            self.assertEqual(size(expr), 200)
            self.assertEqual(read(shown(expr)), expr)

    def test_a_greater_one_is_no_error(self):
        expr = summed([X, Y, num(-12)] * 100)
        self.assertEqual(read(shown(expr)), expr)

    def test_a_deeper_one_is_written(self):
        self.assertEqual(shown(put_around(lambda part: ("sum", part, ONE), 62)), "(sum " * 61 + "x" + " 1)" * 61)

    def test_what_was_handed_in_is_as_it_was(self):
        expr, text = PAIRS[-1]
        before = repr(expr)
        shown(expr)
        self.assertEqual(repr(expr), before)
        self.assertEqual(read(text), expr)


if __name__ == "__main__":
    unittest.main()
