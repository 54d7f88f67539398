"""The table of two texts [7], and their telling [8], [9]."""

import copy
import itertools
import unittest

from redraft import telling
from redraft.errors import NoWord, TooLong
from redraft.rows import cost, done, turned
from redraft.telling import apart, table, told

CALLS = (table, apart, told)

NO_WORDS = [
    "", " ", "\n", "\t", "a b", " a", "a ", "a\nb", "a\n", "a\tb", "x" * 41,
    None, 0, 7, True, 1.5, b"a", ["a"], ("a",), {"a": "a"},
]

NO_LISTS = [None, "", "a", "a b", ("a", "b"), (), {"a": 1}, {"a"}, 0, True, b"a", iter(["a"])]

# An old line, a new line, how far apart they are, the rows of their telling.
TELLINGS = [
    ("", "", 0, []),
    ("a", "a", 0, ["keep a"]),
    ("a b c", "a b c", 0, ["keep a b c"]),
    ("a b c", "", 3, ["cut a b c"]),
    ("", "a b c", 3, ["put a b c"]),
    ("a", "b", 2, ["cut a", "put b"]),
    ("a b c", "x y", 5, ["cut a b c", "put x y"]),
    ("a b", "x y z", 5, ["cut a b", "put x y z"]),
    ("a", "A", 2, ["cut a", "put A"]),
    ("ab", "a b", 3, ["cut ab", "put a b"]),
    ("a b c", "a c", 1, ["keep a", "cut b", "keep c"]),
    ("a c", "a b c", 1, ["keep a", "put b", "keep c"]),
    ("a b c", "a x c", 2, ["keep a", "cut b", "put x", "keep c"]),
    ("b", "a b", 1, ["put a", "keep b"]),
    ("a b", "b", 1, ["cut a", "keep b"]),
    ("a", "a b", 1, ["keep a", "put b"]),
    ("a b", "a", 1, ["keep a", "cut b"]),
    # Keeping either word costs the same: the old text's next word is cut.
    ("a b", "b a", 2, ["cut a", "keep b", "put a"]),
    ("b a", "a b", 2, ["cut b", "keep a", "put b"]),
    # Any of three words may be kept.
    ("a b c", "c b a", 4, ["cut a b", "keep c", "put b a"]),
    # Two words kept cost less than one: no cut of the next word here.
    ("a b c", "c a b", 2, ["put c", "keep a b", "cut c"]),
    ("c a b", "a b c", 2, ["cut c", "keep a b", "put c"]),
    # Two pairs of words may be kept: behind a cut no more is left than behind a put.
    ("a b c d", "c d a b", 4, ["cut a b", "keep c d", "put a b"]),
    # A word that comes again is kept at the first chance.
    ("a", "a a", 1, ["keep a", "put a"]),
    ("a a", "a", 1, ["keep a", "cut a"]),
    ("a b a", "a", 2, ["keep a", "cut b a"]),
    ("a", "b a c a", 3, ["put b", "keep a", "put c a"]),
    ("a b a b", "b a b a", 2, ["cut a", "keep b a b", "put a"]),
    # Cuts and puts at once, ahead of the first keep, between two, behind the last.
    (
        "p q k r s l t u", "v w k x y l z", 11,
        ["cut p q", "put v w", "keep k", "cut r s", "put x y", "keep l", "cut t u", "put z"],
    ),
    (
        "the quick brown fox jumps", "the slow brown cat jumps high", 5,
        ["keep the", "cut quick", "put slow", "keep brown", "cut fox", "put cat", "keep jumps", "put high"],
    ),
]


def row(line):
    kind, *words = line.split()
    return (kind, 0, tuple(words))


def texts(signs, longest):
    for many in range(longest + 1):
        for text in itertools.product(signs, repeat=many):
            yield list(text)


def steps_of_all(old, new):
    """All ways, step by step, that lead from an old text to a new one without blocks."""
    if not old and not new:
        yield []
    if old and new and old[0] == new[0]:
        for steps in steps_of_all(old[1:], new[1:]):
            yield [("keep", old[0])] + steps
    if old:
        for steps in steps_of_all(old[1:], new):
            yield [("cut", old[0])] + steps
    if new:
        for steps in steps_of_all(old, new[1:]):
            yield [("put", new[0])] + steps


def steps_cost(steps):
    return sum(1 for kind, _ in steps if kind != "keep")


def plain_table(old, new):
    """The words of [7]: the least of all costs, for each pair of end pieces."""
    return [
        [min(map(steps_cost, steps_of_all(old[i:], new[k:]))) for k in range(len(new) + 1)]
        for i in range(len(old) + 1)
    ]


def plainly_told(old, new, costs):
    """The words of [8] and [9], with rows gathered between keeps."""
    kept, cut, put, rows, i, k = [], [], [], [], 0, 0

    def close(kind, words):
        if words:
            rows.append((kind, 0, tuple(words)))
            words.clear()

    while i < len(old) or k < len(new):
        if i < len(old) and k < len(new) and old[i] == new[k]:
            close("cut", cut)
            close("put", put)
            kept.append(old[i])
            i, k = i + 1, k + 1
            continue
        close("keep", kept)
        if k == len(new) or (i < len(old) and costs[i + 1][k] <= costs[i][k + 1]):
            cut.append(old[i])
            i += 1
        else:
            put.append(new[k])
            k += 1
    close("keep", kept)
    close("cut", cut)
    close("put", put)
    return rows


class Interface(unittest.TestCase):
    def test_the_functions_are_defined_in_their_file(self):
        for name in ("table", "apart", "told"):
            self.assertEqual(getattr(telling, name).__module__, "redraft.telling")

    def test_kinds_of_answers(self):
        costs = table(["a", "b"], ["b"])
        self.assertIs(type(costs), list)
        for line in costs:
            self.assertIs(type(line), list)
            for number in line:
                self.assertIs(type(number), int)
        self.assertIs(type(apart(["a"], ["b"])), int)
        rows = told(["a", "b"], ["b", "c"])
        self.assertIs(type(rows), list)
        for one in rows:
            self.assertIs(type(one), tuple)
            self.assertEqual([type(part) for part in one], [str, int, tuple])


class Table(unittest.TestCase):
    def test_two_texts_without_words(self):
        self.assertEqual(table([], []), [[0]])

    def test_one_text_without_words(self):
        self.assertEqual(table(["a", "b", "c"], []), [[3], [2], [1], [0]])
        self.assertEqual(table([], ["a", "b", "c"]), [[3, 2, 1, 0]])

    def test_one_word_each(self):
        self.assertEqual(table(["a"], ["a"]), [[0, 1], [1, 0]])
        self.assertEqual(table(["a"], ["b"]), [[2, 1], [1, 0]])

    def test_like_texts(self):
        self.assertEqual(
            table(["a", "b", "c"], ["a", "b", "c"]),
            [[0, 1, 2, 3], [1, 0, 1, 2], [2, 1, 0, 1], [3, 2, 1, 0]],
        )

    def test_texts_without_a_common_word(self):
        self.assertEqual(table(["a", "b"], ["x", "y", "z"]), [[5, 4, 3, 2], [4, 3, 2, 1], [3, 2, 1, 0]])

    def test_number_by_number(self):
        self.assertEqual(
            table(["a", "b", "c"], ["c", "a", "b"]),
            [
                [2, 1, 2, 3],  # a b c  to  c a b, a b, b, nothing
                [3, 2, 1, 2],  # b c
                [2, 3, 2, 1],  # c
                [3, 2, 1, 0],  # nothing
            ],
        )
        self.assertEqual(
            table(["a", "b"], ["b", "a", "b"]),
            [[1, 0, 1, 2], [2, 1, 0, 1], [3, 2, 1, 0]],
        )
        self.assertEqual(
            table(["a", "a"], ["a", "b", "a"]),
            [[1, 2, 1, 2], [2, 1, 0, 1], [3, 2, 1, 0]],
        )

    def test_i_is_the_old_text_and_k_the_new_one(self):
        costs = table(["a"] * 4, ["b"] * 2)
        self.assertEqual(len(costs), 5)
        self.assertEqual({len(line) for line in costs}, {3})
        self.assertEqual((costs[4][0], costs[0][2]), (2, 4))

    def test_the_least_cost_of_all_ways(self):
        for old in texts("ab", 3):
            for new in texts("ab", 3):
                self.assertEqual(table(old, new), plain_table(old, new), (old, new))
        for old in texts("abc", 3):
            new = ["c", "a", "b"]
            self.assertEqual(table(old, new), plain_table(old, new), (old, new))

    def test_each_line_is_a_list_of_its_own(self):
        for old, new in ([["a", "b"], ["a", "b"]], [["a", "b"], []], [[], ["a"]]):
            costs = table(old, new)
            for line in costs:
                line[0] = 99
                line.append(99)
            self.assertEqual(len(costs), len(old) + 1)
            self.assertEqual([len(line) for line in costs], [len(new) + 2] * len(costs))
            self.assertEqual(table(old, new), plain_table(old, new))


class Apart(unittest.TestCase):
    def test_how_far(self):
        for old, new, far, _ in TELLINGS:
            with self.subTest(old=old, new=new):
                self.assertEqual(apart(old.split(), new.split()), far)

    def test_the_tables_first_number(self):
        for old in texts("ab", 4):
            for new in texts("ab", 4):
                self.assertEqual(apart(old, new), table(old, new)[0][0])

    def test_as_far_there_as_back(self):
        for old in texts("abc", 3):
            for new in texts("abc", 3):
                self.assertEqual(apart(old, new), apart(new, old))


class Told(unittest.TestCase):
    def test_row_by_row(self):
        for old, new, _, lines in TELLINGS:
            with self.subTest(old=old, new=new):
                self.assertEqual(told(old.split(), new.split()), [row(line) for line in lines])

    def test_it_leads_to_the_new_text_at_the_least_cost(self):
        for old, new, far, _ in TELLINGS:
            rows = told(old.split(), new.split())
            with self.subTest(old=old, new=new):
                self.assertEqual(done(rows, old.split()), new.split())
                self.assertEqual(cost(rows), far)

    def test_two_texts_without_words_have_no_rows(self):
        self.assertEqual(told([], []), [])

    def test_which_of_the_cheapest(self):
        for old in texts("ab", 4):
            for new in texts("ab", 4):
                self.assertEqual(told(old, new), plainly_told(old, new, table(old, new)), (old, new))
        for old in itertools.permutations("abcd"):
            for new in itertools.permutations("abcd"):
                costs = table(list(old), list(new))
                self.assertEqual(told(list(old), list(new)), plainly_told(old, new, costs), (old, new))

    def test_what_holds_of_every_telling(self):
        for old in texts("abc", 4):
            for new in texts("abc", 3):
                rows = told(old, new)
                self.assertEqual(done(rows, old), new)
                self.assertEqual(done(turned(rows), new), old)
                self.assertEqual(cost(rows), apart(old, new))
                kinds = [kind for kind, _, _ in rows]
                self.assertLessEqual(set(kinds), {"keep", "cut", "put"})
                for pair in zip(kinds, kinds[1:]):
                    self.assertNotEqual(pair[0], pair[1])
                    self.assertNotEqual(pair, ("put", "cut"))

    def test_the_way_back_is_not_always_the_telling_back(self):
        there = told(["a", "b"], ["b", "a"])
        back = told(["b", "a"], ["a", "b"])
        self.assertNotEqual(turned(there), back)


class LongTexts(unittest.TestCase):
    def test_120_words_get_their_answer(self):
        one = [f"w{k}" for k in range(120)]
        other = [f"v{k}" for k in range(120)]
        self.assertEqual(told(one, one), [("keep", 0, tuple(one))])
        self.assertEqual(told(one, other), [("cut", 0, tuple(one)), ("put", 0, tuple(other))])
        self.assertEqual(apart(one, other), 240)
        self.assertEqual(apart(one, one), 0)
        costs = table(one, other)
        self.assertEqual((len(costs), len(costs[0])), (121, 121))
        self.assertEqual(costs[60][30], 60 + 90)

    def test_120_words_with_much_in_common(self):
        old = ["a", "b"] * 60
        new = ["b", "a"] * 60
        self.assertEqual(apart(old, new), 2)
        self.assertEqual(told(old, new), [("cut", 0, ("a",)), ("keep", 0, tuple(new[:119])), ("put", 0, ("a",))])

    def test_120_words_turned_round(self):
        old = [f"w{k}" for k in range(120)]
        new = old[::-1]
        rows = told(old, new)
        self.assertEqual(rows, [("cut", 0, tuple(old[:119])), ("keep", 0, ("w119",)), ("put", 0, tuple(new[1:]))])

    def test_words_of_forty_signs(self):
        old, new = ["x" * 40] * 120, ["x" * 39 + "y"] * 120
        self.assertEqual(apart(old, new), 240)


class Refusals(unittest.TestCase):
    def refuses(self, refusal, old, new):
        for call in CALLS:
            with self.subTest(call=call.__name__, old=old, new=new), self.assertRaises(refusal):
                call(old, new)

    def test_what_is_no_word(self):
        for wrong in NO_WORDS:
            for text in ([wrong], ["a", wrong], [wrong, "a"]):
                for other in ([], ["a"], text, ["a"] * 121):
                    self.refuses(NoWord, text, other)
                self.refuses(NoWord, ["a"], text)
                self.refuses(NoWord, [], text)

    def test_what_is_no_list_of_words(self):
        for wrong in NO_LISTS:
            for other in ([], ["a"], wrong, ["a"] * 121):
                self.refuses(NoWord, wrong, other)
            self.refuses(NoWord, ["a"], wrong)
            self.refuses(NoWord, [], wrong)

    def test_more_than_120_words(self):
        for many in (121, 122, 300):
            long = ["a"] * many
            self.refuses(TooLong, long, ["a"])
            self.refuses(TooLong, ["a"], long)
            self.refuses(TooLong, [], long)
            self.refuses(TooLong, long, long)

    def test_no_word_goes_ahead_of_too_long_in_one_text(self):
        for text in (["a"] * 121 + [""], [""] + ["a"] * 121, ("a",) * 121):
            self.refuses(NoWord, text, ["a"])
            self.refuses(NoWord, ["a"], text)

    def test_too_long_of_the_old_text_goes_ahead_of_no_word_of_the_new_one(self):
        for wrong in ([""], [None], None, "a", ["a"] * 121 + ["x" * 41]):
            self.refuses(TooLong, ["a"] * 121, wrong)

    def test_no_word_of_the_old_text_goes_ahead_of_too_long_of_the_new_one(self):
        for wrong in ([""], [None], None, "a", ["a"] * 121 + ["x" * 41]):
            self.refuses(NoWord, wrong, ["a"] * 121)


class HandedInStays(unittest.TestCase):
    def test_both_texts_stay(self):
        pairs = [(old.split(), new.split()) for old, new, _, _ in TELLINGS]
        pairs += [
            (["a"] * 120, ["b"] * 120), (["a"] * 121, ["b"]), (["b"], ["a"] * 121),
            (["a", ""], ["b"]), (["a"], ["b", ["c"]]),
        ]
        for old, new in pairs:
            before = copy.deepcopy((old, new))
            for call in CALLS:
                try:
                    call(old, new)
                except (NoWord, TooLong):
                    pass
                self.assertEqual((old, new), before)

    def test_one_list_may_be_both_texts(self):
        text = ["a", "b", "a"]
        self.assertEqual(told(text, text), [("keep", 0, ("a", "b", "a"))])
        self.assertEqual(text, ["a", "b", "a"])

    def test_each_answer_is_a_new_list(self):
        told(["a"], ["b"]).append("z")
        table(["a"], ["b"])[0][0] = 99
        self.assertEqual(told(["a"], ["b"]), [("cut", 0, ("a",)), ("put", 0, ("b",))])
        self.assertEqual(table(["a"], ["b"]), [[2, 1], [1, 0]])


if __name__ == "__main__":
    unittest.main()
