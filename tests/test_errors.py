"""The refusals, as the interface lists them under errors.py."""

import unittest

from foldercode import errors
from foldercode.errors import BadText, ByNought, FoldError, TooGreat, Unset


def one_of_each():
    return [Unset("x"), ByNought(), TooGreat(), BadText()]


class Kinds(unittest.TestCase):

    def test_fold_error_is_a_value_error(self):
        self.assertTrue(issubclass(FoldError, ValueError))
        with self.assertRaises(ValueError):
            raise FoldError("refused")

    def test_each_is_taken_by_fold_error_and_by_value_error(self):
        for error in one_of_each():
            for taker in (FoldError, ValueError):
                with self.subTest(error=error, taker=taker):
                    with self.assertRaises(taker):
                        raise error

    def test_each_is_taken_by_none_of_the_other_three(self):
        kinds = [Unset, ByNought, TooGreat, BadText]
        for own, error in zip(kinds, one_of_each()):
            for kind in kinds:
                with self.subTest(error=error, kind=kind):
                    self.assertEqual(isinstance(error, kind), kind is own)

    def test_fold_error_itself_is_none_of_the_four(self):
        error = FoldError("refused")
        for kind in (Unset, ByNought, TooGreat, BadText):
            self.assertNotIsInstance(error, kind)

    def test_all_five_are_defined_in_this_file(self):
        for name in ("FoldError", "Unset", "ByNought", "TooGreat", "BadText"):
            with self.subTest(name=name):
                kind = getattr(errors, name)
                self.assertEqual(kind.__module__, "foldercode.errors")
                self.assertEqual(kind.__name__, name)

    def test_each_may_be_given_a_message(self):
        for kind in (FoldError, ByNought, TooGreat, BadText):
            with self.subTest(kind=kind):
                self.assertIn("why", str(kind("why")))


class UnsetWord(unittest.TestCase):

    def test_word_tells_the_name(self):
        for name in ("x", "abcdefgh", "let", "word"):
            with self.subTest(name=name):
                self.assertEqual(Unset(name).word, name)

    def test_word_is_there_when_it_is_taken_as_a_fold_error(self):
        with self.assertRaises(FoldError) as taken:
            raise Unset("rate")
        self.assertEqual(taken.exception.word, "rate")

    def test_each_object_has_its_own_word(self):
        one, two = Unset("one"), Unset("two")
        self.assertEqual((one.word, two.word), ("one", "two"))
        self.assertNotIn("word", vars(Unset))


if __name__ == "__main__":
    unittest.main()
