"""Tellings with blocks [10], and what they lead to and cost [11]."""

import copy
import itertools
import unittest

from redraft import blocks
from redraft.blocks import changed, with_blocks
from redraft.errors import NoRow, NoWord, TooLong
from redraft.rows import cost, done, turned
from redraft.telling import apart, told


def row(line):
    """A row from a line of its kind, for a block its number, and its words."""
    kind, *words = line.split()
    if kind in ("take", "lay"):
        return (kind, int(words[0]), tuple(words[1:]))
    return (kind, 0, tuple(words))


def rows_of(lines):
    return [row(line) for line in lines]


# What the rows show, the rows, and the same told with blocks.
BLOCKS = [
    ("no rows", [], []),
    ("keeps alone", ["keep a b", "keep a b"], ["keep a b", "keep a b"]),
    ("cuts alone", ["cut a b", "keep c", "cut a b"], ["cut a b", "keep c", "cut a b"]),
    ("puts alone", ["put a b", "keep c", "put a b"], ["put a b", "keep c", "put a b"]),
    ("no common word", ["cut a b", "keep c", "put x y"], ["cut a b", "keep c", "put x y"]),
    ("a block that went back", ["cut a b", "keep c", "put a b"], ["take 1 a b", "keep c", "lay 1 a b"]),
    ("a block that went ahead", ["put a b", "keep c", "cut a b"], ["lay 1 a b", "keep c", "take 1 a b"]),
    ("a cut right ahead of its put", ["cut a b", "put a b"], ["take 1 a b", "lay 1 a b"]),
    ("a run of one word is no block", ["cut a", "keep c", "put a"], ["cut a", "keep c", "put a"]),
    ("one common word of more", ["cut a b", "keep c", "put a x"], ["cut a b", "keep c", "put a x"]),
    ("another order", ["cut a b", "keep c", "put b a"], ["cut a b", "keep c", "put b a"]),
    ("not side by side in the cut", ["cut a x b", "put a b"], ["cut a x b", "put a b"]),
    ("not side by side in the put", ["cut a b", "put a x b"], ["cut a b", "put a x b"]),
    ("not within one cut", ["cut a", "cut b", "put a b"], ["cut a", "cut b", "put a b"]),
    ("not within one put", ["cut a b", "put a", "put b"], ["cut a b", "put a", "put b"]),
    ("kept and put", ["keep a b", "put a b"], ["keep a b", "put a b"]),
    ("kept and cut", ["keep a b", "cut a b"], ["keep a b", "cut a b"]),
    ("words like other words joined", ["cut ab c", "put a bc"], ["cut ab c", "put a bc"]),
    (
        "what is left ahead and behind",
        ["cut x a b y", "keep k", "put v a b w"],
        ["cut x", "take 1 a b", "cut y", "keep k", "put v", "lay 1 a b", "put w"],
    ),
    ("nothing left ahead", ["cut a b y", "put a b w"], ["take 1 a b", "cut y", "lay 1 a b", "put w"]),
    ("nothing left behind", ["cut x a b", "put v a b"], ["cut x", "take 1 a b", "put v", "lay 1 a b"]),
    (
        "the longest is found first",
        ["cut a b", "keep k", "cut c d e", "keep l", "put a b", "keep m", "put c d e"],
        ["take 2 a b", "keep k", "take 1 c d e", "keep l", "lay 2 a b", "keep m", "lay 1 c d e"],
    ),
    (
        "the longest within a row goes ahead of the first",
        ["cut a b c d e", "keep k", "put a b c", "keep l", "put b c d e"],
        ["cut a", "take 1 b c d e", "keep k", "put a b c", "keep l", "lay 1 b c d e"],
    ),
    (
        "equally long in two cuts",
        ["cut a b", "keep k", "cut c d", "keep l", "put c d", "keep m", "put a b"],
        ["take 1 a b", "keep k", "take 2 c d", "keep l", "lay 2 c d", "keep m", "lay 1 a b"],
    ),
    (
        "equally long in one cut",
        ["cut a b c d", "keep k", "put c d", "keep l", "put a b"],
        ["take 1 a b", "take 2 c d", "keep k", "lay 2 c d", "keep l", "lay 1 a b"],
    ),
    (
        "equally long in one cut, with words between",
        ["cut x a b y c d z", "keep k", "put c d v a b"],
        ["cut x", "take 1 a b", "cut y", "take 2 c d", "cut z", "keep k", "lay 2 c d", "put v", "lay 1 a b"],
    ),
    (
        "equally long and overlapping in one cut",
        ["cut a b c", "keep k", "put b c", "keep l", "put a b"],
        ["take 1 a b", "cut c", "keep k", "put b c", "keep l", "lay 1 a b"],
    ),
    (
        "the first cut goes ahead of the first place in the put",
        ["cut b c", "keep k", "cut a b", "keep l", "put a b c"],
        ["take 1 b c", "keep k", "cut a b", "keep l", "put a", "lay 1 b c"],
    ),
    (
        "one run in two cuts and one put",
        ["cut a b", "keep k", "cut a b", "keep l", "put a b"],
        ["take 1 a b", "keep k", "cut a b", "keep l", "lay 1 a b"],
    ),
    (
        "one run in one cut and two puts",
        ["put a b", "keep k", "cut a b", "keep l", "put a b"],
        ["lay 1 a b", "keep k", "take 1 a b", "keep l", "put a b"],
    ),
    (
        "one run twice in one put",
        ["cut a b", "keep k", "put x a b a b"],
        ["take 1 a b", "keep k", "put x", "lay 1 a b", "put a b"],
    ),
    (
        "one run twice in one cut",
        ["cut x a b y a b", "keep k", "put a b"],
        ["cut x", "take 1 a b", "cut y a b", "keep k", "lay 1 a b"],
    ),
    (
        "one run in two cuts and two puts",
        ["put a b", "keep k", "cut a b", "keep l", "cut a b", "keep m", "put a b"],
        ["lay 1 a b", "keep k", "take 1 a b", "keep l", "take 2 a b", "keep m", "lay 2 a b"],
    ),
    ("a run in itself, in the put", ["cut a a", "keep k", "put a a a"], ["take 1 a a", "keep k", "lay 1 a a", "put a"]),
    ("a run in itself, in the cut", ["cut a a a", "keep k", "put a a"], ["take 1 a a", "cut a", "keep k", "lay 1 a a"]),
    (
        "a longer put of the same word",
        ["cut a a", "keep k", "put a a a a a"],
        ["take 1 a a", "keep k", "lay 1 a a", "put a a a"],
    ),
    (
        "two blocks out of one put of the same word",
        ["cut a a", "keep k", "cut a a", "keep l", "put a a a a a"],
        ["take 1 a a", "keep k", "take 2 a a", "keep l", "lay 1 a a", "lay 2 a a", "put a"],
    ),
    (
        "a run that a block leaves shorter in the put",
        ["cut a b c d e", "keep k", "put a b c", "keep l", "put c d e"],
        ["take 1 a b c", "take 2 d e", "keep k", "lay 1 a b c", "keep l", "put c", "lay 2 d e"],
    ),
    (
        "a run that a block leaves shorter in the cut",
        ["cut a b c", "keep k", "cut c d e", "keep l", "put a b c d e"],
        ["take 1 a b c", "keep k", "cut c", "take 2 d e", "keep l", "lay 1 a b c", "lay 2 d e"],
    ),
    (
        "a run that a block leaves a single word of",
        ["cut a b c", "keep k", "cut c d", "keep l", "put a b c d"],
        ["take 1 a b c", "keep k", "cut c d", "keep l", "lay 1 a b c", "put d"],
    ),
    (
        "what a block parted is not side by side",
        ["cut a x y z b", "keep k", "put x y z", "keep l", "put a b"],
        ["cut a", "take 1 x y z", "cut b", "keep k", "lay 1 x y z", "keep l", "put a b"],
    ),
    (
        "what is left of two rows is not put together",
        ["cut x a b", "cut y", "put a b v", "put w"],
        ["cut x", "take 1 a b", "cut y", "lay 1 a b", "put v", "put w"],
    ),
    (
        "a row in no block stays whole beside others",
        ["cut p q", "cut a b", "put r", "put a b", "keep s", "keep t", "put u"],
        ["cut p q", "take 1 a b", "put r", "lay 1 a b", "keep s", "keep t", "put u"],
    ),
    (
        "three lengths",
        ["cut a b x c d e y f g h i", "keep k", "put c d e f g h i a b"],
        [
            "take 3 a b", "cut x", "take 2 c d e", "cut y", "take 1 f g h i", "keep k",
            "lay 2 c d e", "lay 1 f g h i", "lay 3 a b",
        ],
    ),
]

# An old line, a new line, and their telling with blocks.
CHANGES = [
    ("", "", []),
    ("a b", "a b", ["keep a b"]),
    ("a b", "", ["cut a b"]),
    ("", "a b", ["put a b"]),
    ("a b", "x y", ["cut a b", "put x y"]),
    ("a b", "b a", ["cut a", "keep b", "put a"]),
    ("a b c d e", "c d e a b", ["take 1 a b", "keep c d e", "lay 1 a b"]),
    ("c d e a b", "a b c d e", ["lay 1 a b", "keep c d e", "take 1 a b"]),
    (
        "one two three four five six", "four five six new one two",
        ["take 1 one two", "cut three", "keep four five six", "put new", "lay 1 one two"],
    ),
    (
        "a b c d k l m n o", "k l m n o c d a b",
        ["take 1 a b", "take 2 c d", "keep k l m n o", "lay 2 c d", "lay 1 a b"],
    ),
]

WITH_BLOCKS_ALREADY = [
    ["take 1 a b", "keep c", "lay 1 a b"],
    ["take 1 a b"],
    ["lay 1 a b"],
    ["take 999999999 a"],
    ["cut a b", "put a b", "lay 2 c"],
    ["cut a b", "take 7 c", "put a b"],
    ["keep a", "keep b", "keep c", "take 1 d"],
    ["lay 3 d", "keep a", "keep b", "keep c"],
    ["keep a"] * 200 + ["lay 1 b"],
]

NO_ROWS = [
    ["keep", 0, ("a",)], ("keep", 0), ("keep", 0, ("a",), 0), ("keep", 0, ()), ("keep", 0, ["a"]), ("keep", 0, "a"),
    ("keep", 0, ("",)), ("keep", 0, ("a b",)), ("keep", 0, ("x" * 41,)), ("keep", 0, (None,)), ("keep", 1, ("a",)),
    ("cut", True, ("a",)), ("put", False, ("a",)), ("move", 0, ("a",)), (None, 0, ("a",)), None, 0, "keep", (),
]

NO_LISTS_OF_ROWS = [
    None, 0, True, "", "= a", (), (("keep", 0, ("a",)),), ("keep", 0, ("a",)), {}, {"keep": 0},
    {("keep", 0, ("a",))}, iter([]), b"",
]


def common_length(cut, begin, put, start):
    many = 0
    while begin + many < len(cut) and start + many < len(put) and cut[begin + many] == put[start + many]:
        many += 1
    return many


def plainly_found(rows):
    """The words of [10]: the longest run, of those the first; None without a run of two."""
    best, best_many = None, 1
    for at, (kind, _, cut) in enumerate(rows):
        if kind != "cut":
            continue
        for begin in range(len(cut)):
            for to, (other, _, put) in enumerate(rows):
                if other != "put":
                    continue
                for start in range(len(put)):
                    many = common_length(cut, begin, put, start)
                    if many > best_many:
                        best, best_many = (at, begin, to, start), many
    return best and (*best, best_many)


def plainly_parted(one, begin, many, kind, number):
    words = one[2]
    parts = [
        (one[0], 0, words[:begin]), (kind, number, words[begin:begin + many]), (one[0], 0, words[begin + many:]),
    ]
    return [part for part in parts if part[2]]


def plainly_with_blocks(rows):
    """The words of [10], block by block."""
    number = 1
    while True:
        found = plainly_found(rows)
        if found is None:
            return rows
        at, begin, to, start, many = found
        parted = []
        for k, one in enumerate(rows):
            if k == at:
                parted += plainly_parted(one, begin, many, "take", number)
            elif k == to:
                parted += plainly_parted(one, start, many, "lay", number)
            else:
                parted.append(one)
        rows = parted
        number += 1


def numbers(many, below, seed):
    """As many numbers below a bound, the same ones each time."""
    found = []
    for _ in range(many):
        seed = (seed * 1103515245 + 12345) % 2 ** 31
        found.append((seed >> 12) % below)
    return found


def mixed_words(many, signs, seed):
    return ["abcdefghijklmnop"[k] for k in numbers(many, signs, seed)]


def mixed_tellings():
    """Many tellings of mixed rows, the same ones each time."""
    for seed in range(400):
        kinds = ["keep", "cut", "put", "cut", "put"]
        signs = 2 + seed % 4
        chosen = numbers(2 + seed % 9, 5, seed)
        yield [
            (kinds[k], 0, tuple(mixed_words(1 + (seed + 7 * at) % 13, signs, seed * 31 + at)))
            for at, k in enumerate(chosen)
        ]


def old_words(rows):
    return [word for kind, _, words in rows if kind in ("keep", "cut", "take") for word in words]


def new_words(rows):
    return [word for kind, _, words in rows if kind in ("keep", "put", "lay") for word in words]


class Checks(unittest.TestCase):
    def check_same_doing_for_less(self, rows, block_rows):
        """What [11] says of a telling and of the same told with blocks."""
        old = old_words(rows)
        self.assertEqual(old_words(block_rows), old)
        self.assertEqual(new_words(block_rows), new_words(rows))
        if len(old) <= 120 and len(new_words(rows)) <= 120:
            self.assertEqual(done(block_rows, old), done(rows, old))
            self.assertEqual(done(turned(block_rows), new_words(rows)), old)
        saved = sum(2 * len(words) - 3 for kind, _, words in block_rows if kind == "take")
        self.assertEqual(cost(block_rows), cost(rows) - saved)


class Interface(unittest.TestCase):
    def test_the_functions_are_defined_in_their_file(self):
        for name in ("with_blocks", "changed"):
            self.assertEqual(getattr(blocks, name).__module__, "redraft.blocks")

    def test_kinds_of_answers(self):
        tellings = [
            with_blocks(rows_of(["cut x a b", "put a b y"])),
            changed(["a", "b", "c", "d", "e"], ["c", "d", "e", "x", "a", "b"]),
        ]
        for rows in tellings:
            self.assertIs(type(rows), list)
            for one in rows:
                self.assertIs(type(one), tuple)
                self.assertEqual([type(part) for part in one], [str, int, tuple])


class WithBlocks(Checks):
    def test_row_by_row(self):
        for why, rows, block_rows in BLOCKS:
            with self.subTest(why):
                self.assertEqual(with_blocks(rows_of(rows)), rows_of(block_rows))

    def test_the_plain_words_say_the_same(self):
        for why, rows, block_rows in BLOCKS:
            with self.subTest(why):
                self.assertEqual(plainly_with_blocks(rows_of(rows)), rows_of(block_rows))

    def test_it_does_the_same_for_less(self):
        for why, rows, _ in BLOCKS:
            with self.subTest(why):
                self.check_same_doing_for_less(rows_of(rows), with_blocks(rows_of(rows)))

    def test_a_block_of_n_words_saves_2_n_less_3(self):
        for many in range(2, 60):
            words = tuple(f"w{k}" for k in range(many))
            rows = [("cut", 0, words), ("keep", 0, ("k",)), ("put", 0, words)]
            self.assertEqual(with_blocks(rows), [("take", 1, words), ("keep", 0, ("k",)), ("lay", 1, words)])
            self.assertEqual(cost(rows) - cost(with_blocks(rows)), 2 * many - 3)

    def test_a_telling_that_leads_nowhere_short_enough_is_told_too(self):
        rows = [("cut", 0, ("a", "b") * 200), ("put", 0, ("b", "a") * 200)]
        many = ("a", "b") * 199 + ("a",)
        self.assertEqual(
            with_blocks(rows),
            [("take", 1, many), ("cut", 0, ("b",)), ("put", 0, ("b",)), ("lay", 1, many)],
        )

    def test_all_small_cuts_and_puts(self):
        texts = [words for many in range(1, 5) for words in itertools.product("ab", repeat=many)]
        for cut, put in itertools.product(texts, repeat=2):
            for rows in ([("cut", 0, cut), ("put", 0, put)], [("put", 0, put), ("keep", 0, ("a",)), ("cut", 0, cut)]):
                self.assertEqual(with_blocks(rows), plainly_with_blocks(rows), rows)

    def test_small_cuts_and_puts_by_twos(self):
        texts = [("a", "a"), ("a", "b"), ("b", "a"), ("a", "a", "b"), ("b", "a", "a", "b")]
        for one, two, three, four in itertools.product(texts, repeat=4):
            rows = [("cut", 0, one), ("put", 0, two), ("put", 0, three), ("cut", 0, four)]
            self.assertEqual(with_blocks(rows), plainly_with_blocks(rows), rows)

    def test_mixed_tellings(self):
        for rows in mixed_tellings():
            block_rows = with_blocks(rows)
            self.assertEqual(block_rows, plainly_with_blocks(rows), rows)
            self.check_same_doing_for_less(rows, block_rows)


class LongTellings(Checks):
    def test_long_rows(self):
        words = tuple(f"w{k}" for k in range(1500))
        self.assertEqual(
            with_blocks([("cut", 0, words), ("put", 0, words)]), [("take", 1, words), ("lay", 1, words)]
        )
        self.assertEqual(
            with_blocks([("cut", 0, ("a",) * 1500), ("put", 0, ("a",) * 1000)]),
            [("take", 1, ("a",) * 1000), ("cut", 0, ("a",) * 500), ("lay", 1, ("a",) * 1000)],
        )
        backward = [("cut", 0, words), ("put", 0, words[::-1])]
        self.assertEqual(with_blocks(backward), backward)

    def test_many_blocks_out_of_one_cut(self):
        pairs = [(f"l{k}", f"r{k}") for k in range(500)]
        cut = tuple(word for pair in pairs for word in pair)
        puts = [("put", 0, pair) for pair in reversed(pairs)]
        takes = [("take", k + 1, pair) for k, pair in enumerate(pairs)]
        lays = [("lay", k + 1, pair) for k, pair in enumerate(pairs)]
        self.assertEqual(with_blocks([("cut", 0, cut)] + puts), takes + lays[::-1])

    def test_many_rows(self):
        rows = [("cut", 0, ("a", "b")), ("put", 0, ("a", "b"))] * 1000
        block_rows = with_blocks(rows)
        numbered = [(kind, k) for k in range(1, 1001) for kind in ("take", "lay")]
        self.assertEqual([(kind, number) for kind, number, _ in block_rows], numbered)
        lone = [("cut", 0, ("a",)), ("keep", 0, ("b",)), ("put", 0, ("a",))] * 1000
        self.assertEqual(with_blocks(lone), lone)


class Changed(Checks):
    def test_row_by_row(self):
        for old, new, lines in CHANGES:
            with self.subTest(old=old, new=new):
                self.assertEqual(changed(old.split(), new.split()), rows_of(lines))

    def test_the_telling_told_with_blocks(self):
        for seed in range(300):
            old = mixed_words(seed % 17, 3 + seed % 5, seed)
            new = mixed_words(seed % 13, 3 + seed % 5, seed + 1)
            for one, other in ((old, new), (new, old), (old, old[5:] + old[:5]), (old + new, new + old)):
                rows = changed(one, other)
                self.assertEqual(rows, plainly_with_blocks(told(one, other)))
                self.assertEqual(done(rows, one), other)
                self.check_same_doing_for_less(told(one, other), rows)
                self.assertLessEqual(cost(rows), apart(one, other))

    def test_texts_of_120_words(self):
        one = [f"w{k}" for k in range(120)]
        other = one[70:] + one[:70]
        moved = changed(one, other)
        self.assertEqual(
            moved, [("lay", 1, tuple(one[70:])), ("keep", 0, tuple(one[:70])), ("take", 1, tuple(one[70:]))]
        )
        self.assertEqual(cost(moved), 3)
        self.assertEqual(changed(one, one), [("keep", 0, tuple(one))])
        for seed in (1, 2, 3):
            for signs in (2, 5, 16):
                old = mixed_words(120, signs, seed)
                new = mixed_words(120, signs, seed + 9)
                rows = changed(old, new)
                self.assertEqual(rows, plainly_with_blocks(told(old, new)))
                self.check_same_doing_for_less(told(old, new), rows)


class NoRowOfWithBlocks(unittest.TestCase):
    def test_a_take_or_a_lay_among_the_rows(self):
        for lines in WITH_BLOCKS_ALREADY:
            with self.subTest(lines=lines), self.assertRaises(NoRow):
                with_blocks(rows_of(lines))

    def test_what_was_told_with_blocks_is_not_told_so_again(self):
        for why, rows, _ in BLOCKS:
            block_rows = with_blocks(rows_of(rows))
            if block_rows == rows_of(rows):
                self.assertEqual(with_blocks(block_rows), block_rows)
            else:
                with self.subTest(why), self.assertRaises(NoRow):
                    with_blocks(block_rows)

    def test_what_is_no_row(self):
        for wrong in NO_ROWS:
            good = ("cut", 0, ("a", "b"))
            for rows in ([wrong], [good, wrong], [wrong, good], [("take", 1, ("a",)), wrong]):
                with self.subTest(rows=rows), self.assertRaises(NoRow):
                    with_blocks(rows)

    def test_what_is_no_list_of_rows(self):
        for wrong in NO_LISTS_OF_ROWS:
            with self.subTest(wrong=wrong), self.assertRaises(NoRow):
                with_blocks(wrong)


class RefusalsOfChanged(unittest.TestCase):
    no_texts = [
        [""], ["a", ""], ["a b"], ["a\n"], ["\ta"], ["x" * 41], [None], [0], [True], [b"a"], [["a"]],
        None, "a", ("a",), {"a": 1}, 0, ["a"] * 121 + [""],
    ]

    def refuses(self, refusal, old, new):
        with self.subTest(old=old, new=new), self.assertRaises(refusal):
            changed(old, new)

    def test_no_word_of_the_old_text(self):
        for wrong in self.no_texts:
            for new in ([], ["a"], ["a"] * 121, wrong):
                self.refuses(NoWord, wrong, new)

    def test_no_word_of_the_new_text(self):
        for wrong in self.no_texts:
            for old in ([], ["a"], ["a"] * 120):
                self.refuses(NoWord, old, wrong)

    def test_too_long_of_the_old_text_goes_ahead_of_the_new_text(self):
        for many in (121, 122, 300):
            for new in ([], ["a"], ["a"] * 121, *self.no_texts):
                self.refuses(TooLong, ["a"] * many, new)

    def test_too_long_of_the_new_text(self):
        for old in ([], ["a"], ["a"] * 120):
            for many in (121, 122, 300):
                self.refuses(TooLong, old, ["a"] * many)


class HandedInStays(unittest.TestCase):
    def test_the_rows_stay(self):
        tellings = [rows_of(rows) for _, rows, _ in BLOCKS] + [rows_of(lines) for lines in WITH_BLOCKS_ALREADY]
        tellings += [[("cut", 0, ("a", "b")), wrong] for wrong in NO_ROWS]
        for rows in tellings:
            before = copy.deepcopy(rows)
            try:
                with_blocks(rows)
            except NoRow:
                pass
            self.assertEqual(rows, before)

    def test_the_answer_is_another_list(self):
        for rows in ([], rows_of(["keep a"]), rows_of(["cut a b", "put a b"])):
            before = list(rows)
            with_blocks(rows).append(row("keep z"))
            self.assertEqual(rows, before)

    def test_the_texts_stay(self):
        pairs = [(old.split(), new.split()) for old, new, _ in CHANGES]
        pairs += [(["a"] * 121, ["b"]), (["a"], ["b"] * 121), (["a", ""], ["b"]), (["a"], ["b", ["c"]])]
        for old, new in pairs:
            before = copy.deepcopy((old, new))
            try:
                changed(old, new)
            except (NoWord, TooLong):
                pass
            self.assertEqual((old, new), before)


if __name__ == "__main__":
    unittest.main()
