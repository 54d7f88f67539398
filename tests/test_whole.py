"""What the document promises over the whole program [1]."""

import ast
import copy
import pathlib
import unittest

import redraft
from redraft import blocks, errors, notes, rows, telling, words

FILES = sorted(pathlib.Path(redraft.__file__).parent.glob("*.py"))

INTERFACE = {
    errors: ["RedraftError", "NoWord", "TooLong", "NoRow", "NoFit"],
    words: ["parted", "joined"],
    rows: ["done", "turned", "cost"],
    telling: ["table", "apart", "told"],
    blocks: ["with_blocks", "changed"],
    notes: ["written", "read"],
}


def texts_of_120_words():
    """Pairs of texts of 120 words that have nothing, some or all words in common."""
    one = [f"w{k}" for k in range(120)]
    yield one, one
    yield one, one[::-1]
    yield one, one[60:] + one[:60]
    yield one, [f"v{k}" for k in range(120)]
    yield ["a"] * 120, ["a"] * 120
    yield ["a", "b"] * 60, ["b", "b", "a"] * 40
    yield [f"w{k * k % 7}" for k in range(120)], [f"w{k * k % 11}" for k in range(120)]
    yield ["x" * 40] * 120, ["x" * 40] * 119 + ["~" * 40]
    yield one, []
    yield [], one


class TheProgram(unittest.TestCase):
    def test_the_interface_is_defined_where_it_is_listed(self):
        for module, names in INTERFACE.items():
            for name in names:
                with self.subTest(name=name):
                    self.assertEqual(getattr(module, name).__module__, module.__name__)

    def test_nothing_is_imported_but_the_program_itself(self):
        self.assertEqual(len(FILES), 7)
        for file in FILES:
            for node in ast.walk(ast.parse(file.read_text())):
                self.assertNotIsInstance(node, ast.Import)
                if isinstance(node, ast.ImportFrom):
                    self.assertEqual(node.module.split(".")[0], "redraft", file)

    def test_nothing_is_opened_or_printed(self):
        barred = {"open", "print", "input", "eval", "exec", "__import__", "id", "hash"}
        for file in FILES:
            called = {node.id for node in ast.walk(ast.parse(file.read_text())) if isinstance(node, ast.Name)}
            self.assertEqual(called & barred, set(), file)


class From120WordsTo120Words(unittest.TestCase):
    def test_all_of_it(self):
        for old, new in texts_of_120_words():
            before = copy.deepcopy((old, new))
            self.assertEqual(words.parted(words.joined(old)), old)
            plain = telling.told(old, new)
            with_blocks = blocks.with_blocks(plain)
            self.assertEqual(blocks.changed(old, new), with_blocks)
            for some in (plain, with_blocks):
                self.assertEqual(rows.done(some, old), new)
                self.assertEqual(rows.done(rows.turned(some), new), old)
                self.assertEqual(notes.read(notes.written(some)), some)
            self.assertEqual(rows.cost(plain), telling.apart(old, new))
            saved = sum(2 * len(held) - 3 for kind, _, held in with_blocks if kind == "take")
            self.assertEqual(rows.cost(with_blocks), rows.cost(plain) - saved)
            self.assertEqual((old, new), before)

    def test_the_same_answer_each_time(self):
        for old, new in texts_of_120_words():
            self.assertEqual(telling.table(old, new), telling.table(list(old), list(new)))
            self.assertEqual(blocks.changed(old, new), blocks.changed(list(old), list(new)))


class OneWordTooMany(unittest.TestCase):
    def test_every_text_that_is_handed_in(self):
        long = ["a"] * 121
        calls = [
            lambda: words.parted("a " * 121), lambda: words.joined(long), lambda: rows.done([], long),
            lambda: telling.table(long, []), lambda: telling.table([], long),
            lambda: telling.apart(long, []), lambda: telling.apart([], long),
            lambda: telling.told(long, []), lambda: telling.told([], long),
            lambda: blocks.changed(long, []), lambda: blocks.changed([], long),
        ]
        for at, call in enumerate(calls):
            with self.subTest(at=at), self.assertRaises(errors.TooLong):
                call()


if __name__ == "__main__":
    unittest.main()
