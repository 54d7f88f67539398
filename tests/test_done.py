"""Tellings done [4], turned back [5], and what they cost [6]."""

import copy
import itertools
import unittest

from redraft.errors import NoFit, TooLong
from redraft.rows import cost, done, turned


def keep(line):
    return ("keep", 0, tuple(line.split()))


def cut(line):
    return ("cut", 0, tuple(line.split()))


def put(line):
    return ("put", 0, tuple(line.split()))


def take(number, line):
    return ("take", number, tuple(line.split()))


def lay(number, line):
    return ("lay", number, tuple(line.split()))


# A telling, its old line, its new line, its cost.
TELLINGS = [
    ([], "", "", 0),
    ([keep("a b c")], "a b c", "a b c", 0),
    ([cut("a b c")], "a b c", "", 3),
    ([put("a b c")], "", "a b c", 3),
    ([keep("a"), cut("b"), put("x y"), keep("c")], "a b c", "a x y c", 3),
    ([put("x"), cut("a")], "a", "x", 2),
    ([cut("a"), put("x")], "a", "x", 2),
    ([keep("a"), keep("a"), keep("a")], "a a a", "a a a", 0),
    ([cut("a"), cut("b c"), put("d"), put("e")], "a b c", "d e", 5),
    ([cut("same"), put("same")], "same", "same", 2),
    ([take(1, "a b"), keep("c"), lay(1, "a b")], "a b c", "c a b", 3),
    ([lay(1, "a b"), keep("c"), take(1, "a b")], "c a b", "a b c", 3),
    ([take(1, "a"), lay(1, "a")], "a", "a", 3),
    ([lay(999999999, "a"), take(999999999, "a")], "a", "a", 3),
    (
        [take(7, "a b"), take(3, "a b"), lay(3, "a b"), keep("k"), lay(7, "a b")],
        "a b a b k", "a b k a b", 6,
    ),
    (
        [
            put("new"), lay(2, "e f"), keep("a"), take(1, "b c d"), cut("old one"),
            keep("k"), lay(1, "b c d"), take(2, "e f"), put("end"),
        ],
        "a b c d old one k e f", "new e f a k b c d end", 4 + 6,
    ),
]

MISFITS = [
    ("keep is not the next word", [keep("b")], "a"),
    ("cut is not the next word", [cut("b")], "a"),
    ("take is not the next word", [take(1, "b"), lay(1, "b")], "a"),
    ("next words in another order", [keep("b a")], "a b"),
    ("rows in another order", [cut("b"), keep("a")], "a b"),
    ("words differ by case", [keep("A")], "a"),
    ("a word that only begins alike", [keep("ab")], "a"),
    ("two words for one", [keep("a b")], "ab"),
    ("a keep past the end", [keep("a b")], "a"),
    ("a cut past the end", [keep("a"), cut("b")], "a"),
    ("a take past the end", [keep("a"), lay(1, "b"), take(1, "b")], "a"),
    ("old text without words", [keep("a")], ""),
    ("a word left", [keep("a")], "a b"),
    ("a word left by the telling without rows", [], "a"),
    ("words left by puts and lays", [put("a"), lay(1, "b"), take(1, "b")], "b a"),
    ("a put is none of the old text", [put("a")], "a"),
    ("taken and not laid", [take(1, "a")], "a"),
    ("laid and not taken", [lay(1, "a")], ""),
    ("laid and cut", [lay(1, "a"), cut("a")], "a"),
    ("taken and put", [take(1, "a"), put("a")], "a"),
    ("taken twice", [take(1, "a"), take(1, "a"), lay(1, "a")], "a a"),
    ("taken twice, other words first", [take(1, "b"), take(1, "a"), lay(1, "a")], "b a"),
    ("laid twice", [take(1, "a"), lay(1, "a"), lay(1, "a")], "a"),
    ("laid twice, other words first", [lay(1, "b"), lay(1, "a"), take(1, "a")], "a"),
    ("taken twice and laid twice", [take(1, "a"), lay(1, "a"), take(1, "a"), lay(1, "a")], "a a"),
    ("taken twice, never laid", [take(1, "a"), take(1, "a")], "a a"),
    ("laid twice, never taken", [lay(1, "a"), lay(1, "a")], ""),
    ("laid with other words", [take(1, "a"), lay(1, "b")], "a"),
    ("laid with more words", [take(1, "a"), lay(1, "a b")], "a"),
    ("laid with fewer words", [take(1, "a b"), lay(1, "a")], "a b"),
    ("laid in another order", [take(1, "a b"), lay(1, "b a")], "a b"),
    ("laid by another number", [take(1, "a"), lay(2, "a")], "a"),
    ("two blocks laid crosswise", [take(1, "a"), take(2, "b"), lay(2, "a"), lay(1, "b")], "a b"),
    ("one block of two not laid", [take(1, "a"), take(2, "b"), lay(1, "a")], "a b"),
    ("one block of two not taken", [take(1, "a"), lay(2, "b"), lay(1, "a")], "a"),
    ("one block for two takes", [take(1, "a"), take(1, "b"), lay(1, "a b")], "a b"),
]


class Done(unittest.TestCase):
    def test_old_text_leads_to_new_one(self):
        for rows, old, new, _ in TELLINGS:
            with self.subTest(rows=rows):
                self.assertEqual(done(rows, old.split()), new.split())

    def test_answer_is_a_list_of_words(self):
        new = done([keep("a"), put("b")], ["a"])
        self.assertIs(type(new), list)
        self.assertEqual([type(word) for word in new], [str, str])

    def test_numbers_of_blocks_need_no_order(self):
        for first, second in itertools.permutations((1, 5, 10, 999999999), 2):
            rows = [take(first, "a"), take(second, "b"), lay(second, "b"), lay(first, "a")]
            self.assertEqual(done(rows, ["a", "b"]), ["b", "a"])

    def test_lay_ahead_of_its_take_or_behind_it(self):
        for order in itertools.permutations([take(1, "a b"), lay(1, "a b"), keep("c")]):
            rows = list(order)
            kinds = [kind for kind, _, _ in rows]
            old = ["a", "b", "c"] if kinds.index("take") < kinds.index("keep") else ["c", "a", "b"]
            new = ["a", "b", "c"] if kinds.index("lay") < kinds.index("keep") else ["c", "a", "b"]
            with self.subTest(rows=rows):
                self.assertEqual(done(rows, old), new)

    def test_misfits(self):
        for why, rows, old in MISFITS:
            with self.subTest(why), self.assertRaises(NoFit):
                done(rows, old.split())

    def test_long_rows_that_fit(self):
        words = tuple(f"w{k}" for k in range(120))
        self.assertEqual(done([("keep", 0, words)], list(words)), list(words))
        self.assertEqual(done([("put", 0, words), ("cut", 0, words)], list(words)), list(words))
        rows = [("cut", 0, (word,)) for word in words] + [("put", 0, (word,)) for word in words]
        self.assertEqual(done(rows, list(words)), list(words))

    def test_long_rows_that_do_not_fit(self):
        with self.assertRaises(NoFit):
            done([("keep", 0, ("a",) * 121)], ["a"] * 120)
        with self.assertRaises(NoFit):
            done([("cut", 0, ("a",) * 5000)], ["a"])


class NewTextTooLong(unittest.TestCase):
    def test_by_puts(self):
        self.assertEqual(done([("put", 0, ("a",) * 120)], []), ["a"] * 120)
        with self.assertRaises(TooLong):
            done([("put", 0, ("a",) * 121)], [])
        with self.assertRaises(TooLong):
            done([("put", 0, ("a",))] * 121, [])

    def test_by_a_put_beside_keeps(self):
        old = ["a"] * 120
        rows = [("keep", 0, ("a",) * 120), ("put", 0, ("b",))]
        with self.assertRaises(TooLong):
            done(rows, old)
        rows = [("keep", 0, ("a",) * 119), ("cut", 0, ("a",)), ("put", 0, ("b",))]
        self.assertEqual(done(rows, old), ["a"] * 119 + ["b"])

    def test_by_a_put_beside_a_lay(self):
        for number in (1, 999999999):
            rows = [("lay", number, ("a",) * 100), ("take", number, ("a",) * 100)]
            self.assertEqual(done(rows + [("put", 0, ("b",) * 20)], ["a"] * 100), ["a"] * 100 + ["b"] * 20)
            with self.assertRaises(TooLong):
                done(rows + [("put", 0, ("b",) * 21)], ["a"] * 100)

    def test_a_put_that_is_cut_short_later_counts_whole(self):
        old = ["a"] * 10
        rows = [("put", 0, ("b",) * 121), ("cut", 0, ("a",) * 10)]
        with self.assertRaises(TooLong):
            done(rows, old)

    def test_no_fit_goes_ahead(self):
        long_put = ("put", 0, ("b",) * 121)
        for why, rows, old in MISFITS:
            for unfit in ([long_put] + rows, rows + [long_put]):
                with self.subTest(why), self.assertRaises(NoFit):
                    done(unfit, old.split())


class Turned(unittest.TestCase):
    def test_each_kind(self):
        rows = [keep("k"), cut("c d"), put("p"), take(4, "t u"), lay(9, "l")]
        back = [keep("k"), put("c d"), cut("p"), lay(4, "t u"), take(9, "l")]
        self.assertEqual(turned(rows), back)
        self.assertEqual(turned(back), rows)

    def test_no_rows(self):
        self.assertEqual(turned([]), [])

    def test_order_stays(self):
        rows = [put("a"), cut("b"), put("c"), cut("d"), keep("e")]
        self.assertEqual(turned(rows), [cut("a"), put("b"), cut("c"), put("d"), keep("e")])

    def test_answer_is_a_list_of_rows(self):
        back = turned([take(1, "a"), lay(1, "a")])
        self.assertIs(type(back), list)
        for row in back:
            self.assertEqual([type(part) for part in row], [str, int, tuple])
            self.assertIs(type(row), tuple)

    def test_back_and_forth(self):
        for rows, old, new, _ in TELLINGS:
            with self.subTest(rows=rows):
                self.assertEqual(done(turned(rows), new.split()), old.split())
                self.assertEqual(turned(turned(rows)), rows)
                self.assertEqual(done(turned(turned(rows)), old.split()), new.split())

    def test_a_telling_that_fits_nothing_is_turned_too(self):
        self.assertEqual(turned([take(1, "a"), take(1, "b")]), [lay(1, "a"), lay(1, "b")])


class Cost(unittest.TestCase):
    def test_costs(self):
        for rows, _, _, many in TELLINGS:
            with self.subTest(rows=rows):
                self.assertEqual(cost(rows), many)
                self.assertIs(type(cost(rows)), int)

    def test_the_way_back_costs_as_much(self):
        for rows, _, _, many in TELLINGS:
            self.assertEqual(cost(turned(rows)), many)

    def test_each_kind_alone(self):
        self.assertEqual(cost([keep("a b c d e")]), 0)
        self.assertEqual(cost([cut("a b c d e")]), 5)
        self.assertEqual(cost([put("a b c d e")]), 5)
        self.assertEqual(cost([take(8, "a b c d e")]), 3)
        self.assertEqual(cost([lay(8, "a b c d e")]), 0)

    def test_a_take_costs_three_however_many_words(self):
        for many in (1, 2, 3, 120, 5000):
            self.assertEqual(cost([("take", 1, ("a",) * many)]), 3)
            self.assertEqual(cost([("take", 999999999, ("a",) * many), ("lay", 999999999, ("a",) * many)]), 3)

    def test_each_take_costs(self):
        self.assertEqual(cost([take(1, "a"), take(1, "a"), take(2, "b")]), 9)

    def test_long_tellings(self):
        self.assertEqual(cost([("put", 0, ("a",) * 5000), ("cut", 0, ("a",) * 7000)]), 12000)
        self.assertEqual(cost([cut("a")] * 5000), 5000)


class HandedInStays(unittest.TestCase):
    def cases(self):
        for rows, old, _, _ in TELLINGS:
            yield list(rows), old.split()
        for _, rows, old in MISFITS:
            yield list(rows), old.split()
        yield [put("a b"), ("put", 0, ("a",) * 121)], []
        yield [keep("a")], ["a"] * 121
        yield [keep("a")], ["a", ""]
        yield [keep("a"), ["put", 0, ["b"]]], ["a"]

    def test_rows_and_old_text_stay(self):
        for rows, old in self.cases():
            rows_before, old_before = copy.deepcopy(rows), copy.deepcopy(old)
            for call in (lambda: done(rows, old), lambda: turned(rows), lambda: cost(rows)):
                try:
                    call()
                except ValueError:
                    pass
                self.assertEqual(rows, rows_before)
                self.assertEqual(old, old_before)

    def test_the_new_text_is_another_list(self):
        old = ["a", "b"]
        new = done([keep("a b")], old)
        new.append("c")
        self.assertEqual(old, ["a", "b"])

    def test_the_way_back_is_another_list(self):
        for rows in ([], [keep("a")]):
            before = list(rows)
            turned(rows).append(keep("z"))
            self.assertEqual(rows, before)


def small_tellings():
    """All tellings of up to four rows out of a few, most of which fit nothing."""
    choices = [keep("a"), cut("a"), put("a"), put("b c"), take(1, "a"), lay(1, "a"), take(2, "b c"), lay(2, "b c")]
    for many in range(5):
        yield from itertools.product(choices, repeat=many)


def plainly_done(rows, old):
    """The words of [4], followed row by row; None where the telling doesn't fit."""
    left, new, taken, laid = list(old), [], [], []
    for kind, number, words in rows:
        if kind in ("keep", "cut", "take"):
            for word in words:
                if not left or left.pop(0) != word:
                    return None
        if kind in ("keep", "put", "lay"):
            new.extend(words)
        if kind == "take":
            taken.append((number, words))
        if kind == "lay":
            laid.append((number, words))
    each_once = len({number for number, _ in taken}) == len(taken) == len(laid)
    return new if not left and each_once and sorted(taken) == sorted(laid) else None


class AllSmallTellings(unittest.TestCase):
    def test_done_as_the_words_of_the_promise_say(self):
        for choice in small_tellings():
            rows = list(choice)
            words = [word for kind, _, held in rows if kind in ("keep", "cut", "take") for word in held]
            for old in (words, words + ["a"], words[1:]):
                new = plainly_done(rows, old)
                if new is None:
                    with self.assertRaises(NoFit, msg=(rows, old)):
                        done(rows, old)
                else:
                    self.assertEqual(done(rows, old), new, (rows, old))
                    self.assertEqual(done(turned(rows), new), old, (rows, old))


if __name__ == "__main__":
    unittest.main()
