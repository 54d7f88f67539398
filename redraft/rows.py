"""Rows and tellings (lists of rows): what they are, what they do and cost."""

from redraft.errors import NoFit, NoRow
from redraft.words import check_length, check_text, is_word

PRICE = 3
LAST_BLOCK = 999999999
PLAIN_KINDS = ("keep", "cut", "put")
BLOCK_KINDS = ("take", "lay")
OLD_KINDS = ("keep", "cut", "take")
NEW_KINDS = ("keep", "put", "lay")
WAY_BACK = {"keep": "keep", "cut": "put", "put": "cut", "take": "lay", "lay": "take"}


def is_number(kind, number):
    """Tell whether this is a number for a row of this kind."""
    # True and False would pass as 1 and 0.
    if not isinstance(number, int) or isinstance(number, bool):
        return False
    if kind in BLOCK_KINDS:
        return 1 <= number <= LAST_BLOCK
    return number == 0


def is_row_of_words(words):
    """Tell whether this is a tuple of one word or more."""
    if not isinstance(words, tuple) or len(words) == 0:
        return False
    return all(is_word(word) for word in words)


def is_row(row):
    """Tell whether this is a row."""
    if not isinstance(row, tuple) or len(row) != 3:
        return False
    kind, number, words = row
    if kind not in PLAIN_KINDS and kind not in BLOCK_KINDS:
        return False
    return is_number(kind, number) and is_row_of_words(words)


def check_rows(rows):
    """Refuse what is no telling."""
    if not isinstance(rows, list):
        raise NoRow("a telling is handed in as a list of rows")
    for at, row in enumerate(rows):
        if not is_row(row):
            raise NoRow(f"item {at} of the list is no row")


def words_of(rows, kinds):
    """List the words of all rows of these kinds, one row behind the other."""
    words = []
    for kind, _, row_words in rows:
        if kind in kinds:
            words.extend(row_words)
    return words


def blocks_of(rows, block_kind):
    """Give the words of each block by its number, from the rows of one kind."""
    blocks = {}
    for kind, number, words in rows:
        if kind == block_kind:
            if number in blocks:
                raise NoFit(f"block {number} has more than one {block_kind}")
            blocks[number] = words
    return blocks


def check_fit(rows, old):
    """Refuse a telling that can't be done on this old text."""
    if words_of(rows, OLD_KINDS) != old:
        raise NoFit("the words kept, cut and taken are not the old text")
    if blocks_of(rows, "take") != blocks_of(rows, "lay"):
        raise NoFit("the blocks taken are not the blocks laid")


def done(rows, old):
    """Do a telling on an old text: the new text."""
    check_rows(rows)
    check_text(old)
    check_fit(rows, old)
    new = words_of(rows, NEW_KINDS)
    check_length(new)
    return new


def turned(rows):
    """Turn a telling round: the way back."""
    check_rows(rows)
    return [(WAY_BACK[kind], number, words) for kind, number, words in rows]


def cost(rows):
    """Add up what a telling costs."""
    check_rows(rows)
    total = 0
    for kind, _, words in rows:
        if kind in ("cut", "put"):
            total += len(words)
        elif kind == "take":
            total += PRICE
    return total
