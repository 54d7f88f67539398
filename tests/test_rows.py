"""What a row and a telling are, and that NoRow goes ahead of all else [3]."""

import unittest

from redraft import rows as rows_file
from redraft.errors import NoFit, NoRow, NoWord, TooLong
from redraft.rows import PRICE, cost, done, turned

KINDS = ("keep", "cut", "put", "take", "lay")

WRONG_KINDS = [
    "", "Keep", "KEEP", "keep ", " keep", "kee", "move", "=", "-", "+", "<", ">", "keepcut",
    None, 0, 1, True, b"keep", ["keep"], ("keep",), {"keep": 1},
]

WRONG_ROWS = [
    None, 0, True, "keep", "kee", b"kee", [], (), {}, ["keep", 0, ("a",)],
    ("keep",), ("keep", 0), ("keep", ("a",)), (0, ("a",)), ("keep", 0, ("a",), 0), ("keep", 0, "a", "b"),
    (0, "keep", ("a",)), ("keep", ("a",), 0), (("keep", 0, ("a",)),),
]

WRONG_WORDS = [
    (), [], ["a"], "a", "ab", "", None, 0, True, {"a": 1}, {"a"}, b"a",
    ("",), ("a b",), (" a",), ("a\n",), ("a\tb",), ("x" * 41,), (None,), (0,), (True,), (b"a",),
    (("a",),), (["a"],), ("a", ""), ("", "a"), ("a", "x" * 41, "b"), ("a", None),
]

WRONG_TELLINGS = [
    None, 0, True, "", "= a", "keep", (), (("keep", 0, ("a",)),), {}, {"keep": 0},
    ("keep", 0, ("a",)), {("keep", 0, ("a",))}, b"", iter([("keep", 0, ("a",))]),
]


def number_of(kind):
    return 1 if kind in ("take", "lay") else 0


def calls(rows):
    """Each call of the interface that wants a telling."""
    return [lambda: done(rows, ["a"]), lambda: turned(rows), lambda: cost(rows)]


class Checks(unittest.TestCase):
    def refuses(self, rows):
        for call in calls(rows):
            with self.subTest(rows=rows), self.assertRaises(NoRow):
                call()

    def refuses_row(self, row):
        good = ("keep", 0, ("a",))
        for rows in ([row], [good, row], [row, good], [good, row, good]):
            self.refuses(rows)

    def takes(self, rows):
        with self.subTest(rows=rows):
            turned(rows)
            cost(rows)


class Interface(Checks):
    def test_the_price(self):
        self.assertEqual(PRICE, 3)
        self.assertIs(type(PRICE), int)

    def test_the_functions_are_defined_in_their_file(self):
        for name in ("done", "turned", "cost"):
            self.assertEqual(getattr(rows_file, name).__module__, "redraft.rows")


class WhatARowIs(Checks):
    def test_the_five_kinds(self):
        for kind in KINDS:
            self.takes([(kind, number_of(kind), ("a", "b"))])

    def test_the_telling_without_rows(self):
        self.takes([])
        self.assertEqual(done([], []), [])

    def test_no_other_kind(self):
        for kind in WRONG_KINDS:
            for number in (0, 1):
                self.refuses_row((kind, number, ("a",)))

    def test_what_is_no_tuple_of_three(self):
        for row in WRONG_ROWS:
            self.refuses_row(row)

    def test_keep_cut_and_put_have_the_number_0(self):
        for kind in ("keep", "cut", "put"):
            self.takes([(kind, 0, ("a",))])
            for number in (1, 2, -1, 999999999, 1000000000):
                self.refuses_row((kind, number, ("a",)))

    def test_numbers_of_blocks(self):
        for kind in ("take", "lay"):
            for number in (1, 2, 10, 123456789, 999999998, 999999999):
                self.takes([(kind, number, ("a",))])
            for number in (0, -1, -999999999, 1000000000, 10 ** 30):
                self.refuses_row((kind, number, ("a",)))

    def test_true_and_false_are_no_numbers(self):
        for kind in KINDS:
            for number in (True, False):
                self.refuses_row((kind, number, ("a",)))

    def test_what_else_is_no_number(self):
        for kind in KINDS:
            for number in (None, "0", "1", "", 0.0, 1.0, (0,), [1], b"1"):
                self.refuses_row((kind, number, ("a",)))

    def test_words_of_rows(self):
        for kind in KINDS:
            for words in (("x",), ("x" * 40,), ("a", "a"), ("!", "~", "$", "&")):
                self.takes([(kind, number_of(kind), words)])
            for words in WRONG_WORDS:
                self.refuses_row((kind, number_of(kind), words))

    def test_what_is_no_list_of_rows(self):
        for rows in WRONG_TELLINGS:
            self.refuses(rows)

    def test_neither_words_of_a_row_nor_rows_are_bounded(self):
        for kind in KINDS:
            self.takes([(kind, number_of(kind), ("a",) * 5000)])
            self.takes([(kind, number_of(kind), ("a",))] * 5000)


class NoRowGoesFirst(unittest.TestCase):
    def test_ahead_of_the_old_text(self):
        wrong_olds = [None, "a", ("a",), [""], [None], ["x" * 41], ["a"] * 121, ["b"], []]
        wrong_rows = [None, (), [None], [("keep", 1, ("a",))], [("keep", 0, ())], [("put", 0, ("",))]]
        for rows in wrong_rows:
            for old in wrong_olds:
                with self.subTest(rows=rows, old=old), self.assertRaises(NoRow):
                    done(rows, old)

    def test_a_late_row_goes_ahead_of_an_early_misfit(self):
        with self.assertRaises(NoRow):
            done([("keep", 0, ("b",)), ("take", 1, ("c",)), ("keep", 0, ())], ["a"])

    def test_ahead_of_a_new_text_that_is_too_long(self):
        with self.assertRaises(NoRow):
            done([("put", 0, ("a",) * 121), ("put", True, ("a",))], [])


class OldTextGoesSecond(unittest.TestCase):
    fitting = [("keep", 0, ("a",))]
    unfit = [("keep", 0, ("z",)), ("take", 1, ("b",))]
    too_long = [("put", 0, ("a",) * 121)]

    def test_no_word_of_the_old_text(self):
        wrong = [
            None, "a", ("a",), {"a": 1}, 0, [""], ["a", ""], [None], ["a b"], ["a\n"], ["a\t"],
            ["x" * 41], [7], [True], [b"a"], [["a"]],
        ]
        for rows in (self.fitting, self.unfit, self.too_long, []):
            for old in wrong:
                with self.subTest(rows=rows, old=old), self.assertRaises(NoWord):
                    done(rows, old)

    def test_no_word_goes_ahead_of_too_long(self):
        for old in (["a"] * 121 + [""], [""] + ["a"] * 121, ("a",) * 121, "a" * 121):
            with self.subTest(old=old), self.assertRaises(NoWord):
                done(self.unfit, old)

    def test_too_long_old_text_goes_ahead_of_no_fit(self):
        for rows in (self.fitting, self.unfit, self.too_long, []):
            for many in (121, 122, 300):
                with self.subTest(rows=rows, many=many), self.assertRaises(TooLong):
                    done(rows, ["a"] * many)

    def test_an_old_text_of_120_words_is_not_too_long(self):
        for rows in (self.fitting, self.unfit, self.too_long, []):
            with self.subTest(rows=rows), self.assertRaises(NoFit):
                done(rows, ["a"] * 120)

    def test_no_telling_helps_an_old_text_that_is_too_long(self):
        with self.assertRaises(TooLong):
            done([("cut", 0, ("a",) * 121)], ["a"] * 121)


if __name__ == "__main__":
    unittest.main()
