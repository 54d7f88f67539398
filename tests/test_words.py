"""Words and texts [1], lines taken apart and words put together [2]."""

import copy
import itertools
import unittest

from redraft import words
from redraft.errors import NoWord, TooLong
from redraft.words import LONGEST, MOST, joined, parted

ALL_SIGNS = [chr(code) for code in range(33, 127) if chr(code) != "%"]

NOT_WORDS = [
    "", " ", "\n", "\t", "a b", " a", "a ", "a\nb", "\na", "a\n", "a\tb", "\ta", "a\t",
    "x" * 41, "x" * 400, None, 0, 7, True, False, 1.5, b"a", ["a"], ("a",), [], {"a": "a"},
]

NOT_LISTS = [None, "", "a", "a b", ("a", "b"), (), {"a": 1}, {"a"}, 0, 3, True, b"a", iter(["a"])]


class Interface(unittest.TestCase):
    def test_the_bounds(self):
        self.assertEqual((LONGEST, MOST), (40, 120))
        self.assertEqual((words.LONGEST, words.MOST), (40, 120))

    def test_the_functions_are_defined_in_their_file(self):
        for function in (parted, joined):
            self.assertEqual(function.__module__, "redraft.words")

    def test_kinds_of_answers(self):
        self.assertIs(type(parted("a b")), list)
        self.assertIs(type(parted("a b")[0]), str)
        self.assertIs(type(joined(["a", "b"])), str)


class Parted(unittest.TestCase):
    def test_words_in_order(self):
        self.assertEqual(parted("to be or not to be"), ["to", "be", "or", "not", "to", "be"])

    def test_each_of_the_three_parts_words(self):
        self.assertEqual(parted("a b\nc\td"), ["a", "b", "c", "d"])

    def test_any_many_of_them_side_by_side(self):
        for many in (1, 2, 3, 4):
            for between in itertools.product(" \n\t", repeat=many):
                gap = "".join(between)
                with self.subTest(gap=gap):
                    self.assertEqual(parted("a" + gap + "b"), ["a", "b"])
                    self.assertEqual(parted(gap + "a"), ["a"])
                    self.assertEqual(parted("a" + gap), ["a"])
                    self.assertEqual(parted(gap + "a" + gap + "b" + gap), ["a", "b"])
                    self.assertEqual(parted(gap), [])

    def test_line_without_words(self):
        self.assertEqual(parted(""), [])
        self.assertEqual(parted(" \t\n \n\t"), [])

    def test_no_other_sign_parts_words(self):
        word = "".join(ALL_SIGNS)
        for start in range(0, len(word), 40):
            piece = word[start:start + 40]
            self.assertEqual(parted(piece), [piece])
        for sign in ALL_SIGNS:
            self.assertEqual(parted("a" + sign + "b " + sign), ["a" + sign + "b", sign])

    def test_case_stays(self):
        self.assertEqual(parted("The the THE"), ["The", "the", "THE"])

    def test_words_of_forty_signs_and_of_forty_one(self):
        self.assertEqual(parted("x" * 40), ["x" * 40])
        self.assertEqual(parted("\tx " + "y" * 40 + "\n"), ["x", "y" * 40])
        for line in ("x" * 41, "a " + "x" * 41, "x" * 41 + "\n" + "a", "x" * 1000):
            with self.subTest(line=line), self.assertRaises(NoWord):
                parted(line)

    def test_texts_of_120_words_and_of_121(self):
        self.assertEqual(parted("a " * 120), ["a"] * 120)
        for many in (121, 122, 500):
            with self.subTest(many=many), self.assertRaises(TooLong):
                parted("a\n" * many)

    def test_blanks_are_no_words_that_count(self):
        self.assertEqual(parted(" " * 1000 + "a" + "\t\n" * 1000), ["a"])

    def test_no_word_goes_ahead_of_too_long(self):
        for line in ("a " * 121 + "x" * 41, "x" * 41 + " a" * 121, "a " * 60 + "x" * 41 + " a" * 61):
            with self.subTest(line=line), self.assertRaises(NoWord):
                parted(line)


class Joined(unittest.TestCase):
    def test_one_blank_between(self):
        self.assertEqual(joined(["to", "be", "or"]), "to be or")
        self.assertEqual(joined(["one"]), "one")

    def test_no_word_is_the_empty_line(self):
        self.assertEqual(joined([]), "")

    def test_all_signs_of_words(self):
        self.assertEqual(joined(ALL_SIGNS), " ".join(ALL_SIGNS))

    def test_words_of_a_line_that_was_put_together(self):
        texts = [
            [], ["a"], ["a", "a"], ["b", "a", "b"], ALL_SIGNS, ["x" * 40] * 120,
            ["keep", "=", "-", "+", "<", ">"], [sign * 40 for sign in ALL_SIGNS],
        ]
        for text in texts:
            with self.subTest(text=text):
                self.assertEqual(parted(joined(text)), text)

    def test_line_is_put_together_tidily(self):
        self.assertEqual(joined(parted("\n a \t b\n\nc  ")), "a b c")

    def test_words_of_one_of_forty_and_of_forty_one_signs(self):
        self.assertEqual(joined(["x"]), "x")
        self.assertEqual(joined(["x" * 40]), "x" * 40)
        with self.assertRaises(NoWord):
            joined(["x" * 41])

    def test_what_is_no_word(self):
        for wrong in NOT_WORDS:
            for text in ([wrong], ["a", wrong], [wrong, "a"], ["a", wrong, "b"]):
                with self.subTest(text=text), self.assertRaises(NoWord):
                    joined(text)

    def test_what_is_no_list(self):
        for wrong in NOT_LISTS:
            with self.subTest(wrong=wrong), self.assertRaises(NoWord):
                joined(wrong)

    def test_texts_of_120_words_and_of_121(self):
        self.assertEqual(joined(["a"] * 120), " ".join(["a"] * 120))
        for many in (121, 122, 500):
            with self.subTest(many=many), self.assertRaises(TooLong):
                joined(["a"] * many)

    def test_no_word_goes_ahead_of_too_long(self):
        for wrong in ("", "x" * 41, "a b", None, 5):
            for text in (["a"] * 120 + [wrong], [wrong] + ["a"] * 120, ["a"] * 300 + [wrong]):
                with self.subTest(wrong=wrong), self.assertRaises(NoWord):
                    joined(text)
        with self.assertRaises(NoWord):
            joined(("a",) * 121)
        with self.assertRaises(NoWord):
            joined("a" * 121)


class HandedInStays(unittest.TestCase):
    def test_the_list_of_words_stays(self):
        for text in ([], ["a", "b", "a"], ["a"] * 120, ["a"] * 121, ["a", ""], ["a", ["b"]]):
            before = copy.deepcopy(text)
            try:
                joined(text)
            except (NoWord, TooLong):
                pass
            self.assertEqual(text, before)

    def test_each_answer_is_a_new_list(self):
        first = parted("a b")
        first.append("c")
        self.assertEqual(parted("a b"), ["a", "b"])


if __name__ == "__main__":
    unittest.main()
