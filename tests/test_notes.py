"""Tellings written and read [12]."""

import copy
import itertools
import unittest

from redraft import notes
from redraft.blocks import changed, with_blocks
from redraft.errors import NoRow
from redraft.notes import read, written
from redraft.telling import told

ALL_SIGNS = [chr(code) for code in range(33, 127) if chr(code) != "%"]

# A telling, and what is written for it.
NOTES = [
    ([], ""),
    ([("keep", 0, ("a",))], "= a"),
    ([("cut", 0, ("a",))], "- a"),
    ([("put", 0, ("a",))], "+ a"),
    ([("take", 1, ("a",))], "< 1 a"),
    ([("lay", 1, ("a",))], "> 1 a"),
    ([("keep", 0, ("a", "b", "a"))], "= a b a"),
    ([("take", 12, ("a", "b", "c"))], "< 12 a b c"),
    ([("take", 999999999, ("a",))], "< 999999999 a"),
    ([("lay", 999999999, ("a",))], "> 999999999 a"),
    ([("lay", 100000000, ("a",))], "> 100000000 a"),
    ([("lay", 10, ("a",)), ("take", 10, ("a",))], "> 10 a\n< 10 a"),
    ([("keep", 0, ("a",)), ("keep", 0, ("a",))], "= a\n= a"),
    # Words that look like signs and numbers are words all the same.
    ([("keep", 0, ("=",)), ("cut", 0, ("-", "+")), ("put", 0, ("<", "1"))], "= =\n- - +\n+ < 1"),
    ([("take", 1, ("1",)), ("lay", 2, ("02", "0"))], "< 1 1\n> 2 02 0"),
    ([("keep", 0, ("7",)), ("keep", 0, ("0", "00"))], "= 7\n= 0 00"),
    ([("put", 0, ("x" * 40,))], "+ " + "x" * 40),
    (
        [
            ("take", 1, ("one", "two")), ("cut", 0, ("three",)), ("keep", 0, ("four", "five")),
            ("put", 0, ("new",)), ("lay", 1, ("one", "two")),
        ],
        "< 1 one two\n- three\n= four five\n+ new\n> 1 one two",
    ),
]

NOT_WRITTEN_SO = [
    ("a blank alone", " "),
    ("a line end alone", "\n"),
    ("two line ends", "\n\n"),
    ("a tab alone", "\t"),
    ("a sign alone", "="),
    ("a sign alone", "-"),
    ("a sign alone", "+"),
    ("a sign alone", "<"),
    ("a sign alone", ">"),
    ("no word behind the blank", "= "),
    ("no word behind the blank", "- "),
    ("neither number nor word", "< "),
    ("no word behind two blanks", "=  "),
    ("no blank behind the sign", "=a"),
    ("no blank behind the sign", "-a b"),
    ("no blank behind the sign", "<1 a"),
    ("no blank behind the sign", ">1 a"),
    ("two blanks behind the sign", "=  a"),
    ("two blanks behind the sign", "<  1 a"),
    ("two blanks behind the number", "< 1  a"),
    ("two blanks between words", "= a  b"),
    ("two blanks between words", "> 1 a  b"),
    ("a blank behind the last word", "= a "),
    ("a blank behind the last word", "< 1 a "),
    ("a blank behind the last word of a line", "= a \n= b"),
    ("a blank ahead of the sign", " = a"),
    ("a blank ahead of the sign", "= a\n = b"),
    ("a blank for a line end", "= a - "),
    ("a tab for a blank", "=\ta"),
    ("a tab for a blank", "= a\tb"),
    ("a tab for a blank", "<\t1 a"),
    ("a tab for a blank", "< 1\ta"),
    ("a tab behind the last word", "= a\t"),
    ("a line end behind the last line", "= a\n"),
    ("a line end behind the last line", "= a\n- b\n"),
    ("a line end behind the last line", "< 1 a\n"),
    ("two line ends side by side", "= a\n\n- b"),
    ("a line end ahead of the first line", "\n= a"),
    ("a row over two lines", "= a\nb"),
    ("a row over two lines", "=\na"),
    ("a row over two lines", "< 1\na"),
    ("another sign", "* a"),
    ("another sign", "a"),
    ("another sign", "a b"),
    ("another sign", "keep a"),
    ("another sign", "0 a"),
    ("another sign", "~ a"),
    ("another sign", "! a"),
    ("another sign in a later line", "= a\n? b"),
    ("two signs", "== a"),
    ("two signs", "<> 1 a"),
    ("a kind for a sign", "take 1 a"),
    ("no number", "< a"),
    ("no number", "> a b"),
    ("no number, then a number for a word", "< a 1"),
    ("a number and no word", "< 1"),
    ("a number and no word", "> 999999999"),
    ("a number and no word", "< 1 "),
    ("the number 0", "< 0 a"),
    ("the number 0", "> 0 a"),
    ("the number 0 in two figures", "< 00 a"),
    ("a 0 ahead", "< 01 a"),
    ("a 0 ahead", "> 0999999999 a"),
    ("a 0 ahead", "> 000000001 a"),
    ("ten figures", "< 1000000000 a"),
    ("ten figures", "> 1000000000 a"),
    ("ten figures", "< 9999999999 a"),
    ("many figures", "< " + "1" * 5000 + " a"),
    ("a sign ahead of the number", "< +1 a"),
    ("a sign ahead of the number", "< -1 a"),
    ("a number that is none", "< 1_0 a"),
    ("a number that is none", "< 1.0 a"),
    ("a number that is none", "< 1e3 a"),
    ("a number that is none", "< 0x1 a"),
    ("a number that is none", "< 1, a"),
    ("a number that is none", "< one a"),
    ("a word of 41 signs", "= " + "x" * 41),
    ("a word of 41 signs", "= a " + "x" * 41 + " b"),
    ("a word of 41 signs", "< 1 " + "x" * 41),
    ("a word of 41 signs in a later line", "= a\n+ " + "x" * 41),
    ("a good line and a bad one", "= a\n-"),
    ("a bad line and a good one", "-\n= a"),
]

NO_TEXTS = [None, 0, 1, True, b"= a", b"", ["= a"], [], (), ("= a",), {}, [("keep", 0, ("a",))]]

NO_ROWS = [
    ["keep", 0, ("a",)], ("keep", 0), ("keep", 0, ("a",), 0), ("keep", 0, ()), ("keep", 0, ["a"]), ("keep", 0, "a"),
    ("keep", 0, ("",)), ("keep", 0, ("a b",)), ("keep", 0, ("a\n",)), ("keep", 0, ("x" * 41,)), ("keep", 0, (None,)),
    ("keep", 1, ("a",)), ("cut", True, ("a",)), ("put", False, ("a",)), ("take", 0, ("a",)), ("lay", True, ("a",)),
    ("take", 1000000000, ("a",)), ("lay", -1, ("a",)), ("lay", "1", ("a",)), ("take", None, ("a",)),
    ("=", 0, ("a",)), ("move", 0, ("a",)), (None, 0, ("a",)), None, 0, "= a", (), [],
]

NO_LISTS_OF_ROWS = [
    None, 0, True, "", "= a", (), (("keep", 0, ("a",)),), ("keep", 0, ("a",)), {}, {"keep": 0},
    {("keep", 0, ("a",))}, iter([]), b"",
]


class Interface(unittest.TestCase):
    def test_the_functions_are_defined_in_their_file(self):
        for name in ("written", "read"):
            self.assertEqual(getattr(notes, name).__module__, "redraft.notes")

    def test_kinds_of_answers(self):
        self.assertIs(type(written([])), str)
        self.assertIs(type(written([("keep", 0, ("a",))])), str)
        self.assertIs(type(read("")), list)
        rows = read("= a b\n< 1 a")
        self.assertIs(type(rows), list)
        for row in rows:
            self.assertIs(type(row), tuple)
            self.assertEqual([type(part) for part in row], [str, int, tuple])
            self.assertEqual({type(word) for word in row[2]}, {str})


class Written(unittest.TestCase):
    def test_sign_by_sign(self):
        for rows, line in NOTES:
            with self.subTest(line=line):
                self.assertEqual(written(rows), line)

    def test_long_rows_and_many_rows(self):
        self.assertEqual(written([("put", 0, ("a",) * 5000)]), "+" + " a" * 5000)
        self.assertEqual(written([("cut", 0, ("a",))] * 5000), "\n".join(["- a"] * 5000))

    def test_a_telling_that_fits_nothing_is_written_too(self):
        self.assertEqual(written([("take", 1, ("a",)), ("take", 1, ("b",))]), "< 1 a\n< 1 b")

    def test_what_is_no_row(self):
        good = ("keep", 0, ("a",))
        for wrong in NO_ROWS:
            for rows in ([wrong], [good, wrong], [wrong, good]):
                with self.subTest(rows=rows), self.assertRaises(NoRow):
                    written(rows)

    def test_what_is_no_list_of_rows(self):
        for wrong in NO_LISTS_OF_ROWS:
            with self.subTest(wrong=wrong), self.assertRaises(NoRow):
                written(wrong)


class Read(unittest.TestCase):
    def test_row_by_row(self):
        for rows, line in NOTES:
            with self.subTest(line=line):
                self.assertEqual(read(line), rows)

    def test_every_number_of_figures(self):
        for many in range(1, 10):
            for figures in ("1" * many, "9" * many, "1" + "0" * (many - 1)):
                self.assertEqual(read(f"< {figures} a"), [("take", int(figures), ("a",))])
                self.assertEqual(read(f"> {figures} a"), [("lay", int(figures), ("a",))])
                with self.assertRaises(NoRow):
                    read(f"< 0{figures} a")

    def test_a_number_of_a_plain_row_is_a_word(self):
        self.assertEqual(read("= 1 a"), [("keep", 0, ("1", "a"))])
        self.assertEqual(read("- 0 a"), [("cut", 0, ("0", "a"))])
        self.assertEqual(read("+ 1"), [("put", 0, ("1",))])

    def test_a_second_number_of_a_block_is_a_word(self):
        self.assertEqual(read("< 1 2"), [("take", 1, ("2",))])
        self.assertEqual(read("> 1 2 a"), [("lay", 1, ("2", "a"))])

    def test_long_rows_and_many_rows(self):
        self.assertEqual(read("+" + " a" * 5000), [("put", 0, ("a",) * 5000)])
        self.assertEqual(read("\n".join(["- a"] * 5000)), [("cut", 0, ("a",))] * 5000)

    def test_what_is_not_written_so(self):
        for why, line in NOT_WRITTEN_SO:
            with self.subTest(why, line=line), self.assertRaises(NoRow):
                read(line)

    def test_figures_of_other_scripts_are_none(self):
        for figure in ("\u0661", "\uff11", "\u00b9", "\u2460"):
            with self.subTest(figure=figure), self.assertRaises(NoRow):
                read(f"< {figure} a")

    def test_what_is_no_text(self):
        for wrong in NO_TEXTS:
            with self.subTest(wrong=wrong), self.assertRaises(NoRow):
                read(wrong)

    def test_all_short_texts(self):
        good = 0
        for many in range(6):
            for signs in itertools.product("=<01a \n", repeat=many):
                line = "".join(signs)
                try:
                    rows = read(line)
                except NoRow:
                    continue
                self.assertEqual(written(rows), line)
                good += 1
        # Five of these signs may stand in words: the empty text, "= x", "= xx",
        # "= xxx", "= x x" and "< 1 x". Two rows have seven signs at least.
        self.assertEqual(good, 1 + 5 + 25 + 125 + 25 + 5)


class WrittenAndRead(unittest.TestCase):
    def test_the_same_telling(self):
        for rows, _ in NOTES:
            with self.subTest(rows=rows):
                self.assertEqual(read(written(rows)), rows)

    def test_all_signs_of_words(self):
        for sign in ALL_SIGNS:
            for word in (sign, sign * 2, sign * 40, "a" + sign, sign + "a"):
                rows = [
                    ("keep", 0, (word,)), ("cut", 0, (word, word)), ("put", 0, ("a", word)),
                    ("take", 5, (word,)), ("lay", 5, (word, "1")),
                ]
                self.assertEqual(read(written(rows)), rows)

    def test_all_orders_of_kinds(self):
        rows = [
            ("keep", 0, ("a",)), ("cut", 0, ("b", "c")), ("put", 0, ("d",)),
            ("take", 3, ("e", "f")), ("lay", 40, ("g",)),
        ]
        for some in itertools.permutations(rows):
            self.assertEqual(read(written(list(some))), list(some))

    def test_the_changes_between_two_texts(self):
        old = "one two three four five six seven".split()
        new = "four five six seven new one two".split()
        self.assertEqual(written(told(old, new)), "- one two three\n= four five six seven\n+ new one two")
        self.assertEqual(
            written(changed(old, new)), "< 1 one two\n- three\n= four five six seven\n+ new\n> 1 one two"
        )
        for rows in (told(old, new), changed(old, new), changed(old, old), changed(["a"] * 120, ["b"] * 120)):
            self.assertEqual(read(written(rows)), rows)

    def test_what_was_read_can_be_told_with_blocks(self):
        rows = read("- a b\n= k\n+ a b")
        self.assertEqual(written(with_blocks(rows)), "< 1 a b\n= k\n> 1 a b")


class HandedInStays(unittest.TestCase):
    def test_the_rows_stay(self):
        tellings = [rows for rows, _ in NOTES] + [[("keep", 0, ("a",)), wrong] for wrong in NO_ROWS]
        for rows in tellings:
            before = copy.deepcopy(rows)
            try:
                written(rows)
            except NoRow:
                pass
            self.assertEqual(rows, before)

    def test_each_answer_is_a_new_list(self):
        for line in ("", "= a"):
            first = read(line)
            first.append(("keep", 0, ("z",)))
            self.assertNotEqual(read(line), first)


if __name__ == "__main__":
    unittest.main()
