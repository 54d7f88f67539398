"""Tellings with blocks: runs of words that only went to another place.

A run is two words or more that stand side by side in a row; its place is the
index of that row and the index of its first word there.
"""

from redraft.errors import NoRow
from redraft.rows import BLOCK_KINDS, check_rows
from redraft.telling import told


def check_no_blocks(rows):
    """Refuse what is no telling, or one that has blocks already."""
    check_rows(rows)
    for at, row in enumerate(rows):
        if row[0] in BLOCK_KINDS:
            raise NoRow(f"row {at} is part of a block already")


def places_in(rows, kind, length):
    """List the places of all runs of this length in the rows of one kind, in order."""
    places = []
    for at, (row_kind, _, words) in enumerate(rows):
        if row_kind == kind:
            places.extend([(at, begin) for begin in range(len(words) - length + 1)])
    return places


def run_at(rows, place, length):
    """Give the words of the run at a place."""
    at, begin = place
    words = rows[at][2]
    return words[begin:begin + length]


def has_run(rows, length):
    """Tell whether a run of this length is both within a cut and within a put."""
    put_runs = {run_at(rows, place, length) for place in places_in(rows, "put", length)}
    for place in places_in(rows, "cut", length):
        if run_at(rows, place, length) in put_runs:
            return True
    return False


def longest_run(rows):
    """Tell how long the longest run is that is both cut and put; 1 if there is none."""
    # A run has runs of every lesser length in it: so there is one of the lower
    # length always, and none of the upper one from the second loop on.
    lower = 1
    upper = 2
    while has_run(rows, upper):
        lower = upper
        upper = 2 * upper
    while upper - lower > 1:
        middle = (lower + upper) // 2
        if has_run(rows, middle):
            lower = middle
        else:
            upper = middle
    return lower


def is_free(used, place, length):
    """Tell whether no word of the run at a place is in a block."""
    at, begin = place
    # All these blocks have the same length: one that overlaps covers an end.
    return (at, begin) not in used and (at, begin + length - 1) not in used


def use(used, place, length):
    """Note that the words of the run at a place are in a block."""
    at, begin = place
    for k in range(begin, begin + length):
        used[(at, k)] = True


def next_free(places, used, length):
    """Take the next free place off the end of a list, or None if there is none."""
    while len(places) > 0:
        place = places.pop()
        if is_free(used, place, length):
            return place
    return None


def put_places_of(rows, length):
    """Give the places of each put run of this length, the first place last."""
    put_places = {}
    for place in reversed(places_in(rows, "put", length)):
        run = run_at(rows, place, length)
        put_places.setdefault(run, []).append(place)
    return put_places


def pairs_of(rows, length):
    """List the blocks of the longest length, each as its places in a cut and in a put.

    One pass finds all of them in their order: a block only makes runs fewer,
    so none comes to be at a place that was passed.
    """
    put_places = put_places_of(rows, length)
    used = {}
    pairs = []
    for cut_place in places_in(rows, "cut", length):
        run = run_at(rows, cut_place, length)
        if run in put_places and is_free(used, cut_place, length):
            put_place = next_free(put_places[run], used, length)
            if put_place is not None:
                use(used, cut_place, length)
                use(used, put_place, length)
                pairs.append((cut_place, put_place))
    return pairs


def row_parted(row, block_kind, blocks, length):
    """Part a row into its blocks, each a begin and a number, and what is left of it."""
    kind, _, words = row
    parts = []
    end = 0
    for begin, number in sorted(blocks):
        parts.append((kind, 0, words[end:begin]))
        end = begin + length
        parts.append((block_kind, number, words[begin:end]))
    parts.append((kind, 0, words[end:]))
    return [part for part in parts if len(part[2]) > 0]


def with_pairs(rows, pairs, length, first_number):
    """Make these pairs of places blocks, numbered one after the other."""
    blocks = {}
    for number, pair in enumerate(pairs, first_number):
        for at, begin in pair:
            blocks.setdefault(at, []).append((begin, number))
    parted_rows = []
    for at, row in enumerate(rows):
        if at in blocks:
            block_kind = "take" if row[0] == "cut" else "lay"
            parted_rows.extend(row_parted(row, block_kind, blocks[at], length))
        else:
            parted_rows.append(row)
    return parted_rows


def with_blocks(rows):
    """Tell a telling of keeps, cuts and puts with blocks."""
    check_no_blocks(rows)
    block_rows = list(rows)
    number = 1
    length = longest_run(block_rows)
    while length > 1:
        pairs = pairs_of(block_rows, length)
        block_rows = with_pairs(block_rows, pairs, length, number)
        number += len(pairs)
        length = longest_run(block_rows)
    return block_rows


def changed(old, new):
    """Tell two texts apart with blocks."""
    return with_blocks(told(old, new))
