"""Tellings as text: a line for each row."""

from redraft.errors import NoRow
from redraft.rows import BLOCK_KINDS, check_rows, is_row_of_words

SIGNS = {"keep": "=", "cut": "-", "put": "+", "take": "<", "lay": ">"}
KINDS = {"=": "keep", "-": "cut", "+": "put", "<": "take", ">": "lay"}
MOST_FIGURES = 9


def written_row(row):
    """Write a row as a line."""
    kind, number, words = row
    if kind in BLOCK_KINDS:
        return " ".join([SIGNS[kind], str(number), *words])
    return " ".join([SIGNS[kind], *words])


def written(rows):
    """Write a telling as a text."""
    check_rows(rows)
    return "\n".join([written_row(row) for row in rows])


def read_number(figures):
    """Read the number of a block."""
    # Figures of other scripts are digits too, but not ASCII ones.
    if not figures.isascii() or not figures.isdigit():
        raise NoRow("a block's number is written in figures")
    if len(figures) > MOST_FIGURES or figures.startswith("0"):
        raise NoRow(f"a block's number has 1 to {MOST_FIGURES} figures, the first one no 0")
    return int(figures)


def read_words(pieces):
    """Read the words of a row."""
    words = tuple(pieces)
    if not is_row_of_words(words):
        raise NoRow("a row has one word or more, with one blank ahead of each")
    return words


def read_row(line):
    """Read a row from its line."""
    # By single blanks: one too many leaves an empty piece, which is no word.
    pieces = line.split(" ")
    if pieces[0] not in KINDS:
        raise NoRow("a line begins with the sign of a kind and a blank")
    kind = KINDS[pieces[0]]
    if kind not in BLOCK_KINDS:
        return (kind, 0, read_words(pieces[1:]))
    if len(pieces) == 1:
        raise NoRow(f"a {kind} has a number")
    return (kind, read_number(pieces[1]), read_words(pieces[2:]))


def read(line):
    """Read a telling from its text."""
    if not isinstance(line, str):
        raise NoRow("a telling is read from a text")
    if line == "":
        return []
    return [read_row(row_line) for row_line in line.split("\n")]
