"""The telling of two texts by the fewest words cut and put."""

from redraft.rows import NEW_KINDS, OLD_KINDS
from redraft.words import check_text


def table(old, new):
    """Give the least cost from each end piece of the old text to each of the new one."""
    check_text(old)
    check_text(new)
    costs = [[0] * (len(new) + 1) for _ in range(len(old) + 1)]
    # Each number needs those behind it, so the table is filled from its end.
    for i in range(len(old), -1, -1):
        for k in range(len(new), -1, -1):
            costs[i][k] = least_cost(costs, old, new, i, k)
    return costs


def least_cost(costs, old, new, i, k):
    """Work out one number of the table from those behind it."""
    if i == len(old):
        return len(new) - k
    if k == len(new):
        return len(old) - i
    if old[i] == new[k]:
        return costs[i + 1][k + 1]
    return 1 + min(costs[i + 1][k], costs[i][k + 1])


def apart(old, new):
    """Tell how far apart two texts are."""
    return table(old, new)[0][0]


def next_kind(costs, old, new, i, k):
    """Tell what becomes of the next word, behind i words of the old text and k of the new one."""
    if i == len(old):
        return "put"
    if k == len(new):
        return "cut"
    if old[i] == new[k]:
        return "keep"
    if costs[i + 1][k] <= costs[i][k + 1]:
        return "cut"
    return "put"


def steps_between(old, new):
    """List what becomes of the words, one after the other: each a kind and a word."""
    costs = table(old, new)
    steps = []
    i = 0
    k = 0
    while i < len(old) or k < len(new):
        kind = next_kind(costs, old, new, i, k)
        word = old[i] if kind in OLD_KINDS else new[k]
        steps.append((kind, word))
        if kind in OLD_KINDS:
            i += 1
        if kind in NEW_KINDS:
            k += 1
    return steps


def stretches_of(steps):
    """Part steps into stretches, by turns of keeps alone and of cuts and puts alone."""
    stretches = []
    last_kept = False
    for kind, word in steps:
        kept = kind == "keep"
        if len(stretches) == 0 or kept != last_kept:
            stretches.append([])
        stretches[-1].append((kind, word))
        last_kept = kept
    return stretches


def told(old, new):
    """Tell two texts apart: the rows that lead from the old one to the new one."""
    rows = []
    for stretch in stretches_of(steps_between(old, new)):
        # Kind by kind, so that a stretch has one cut row, and behind it one put row.
        for row_kind in ("keep", "cut", "put"):
            words = [word for kind, word in stretch if kind == row_kind]
            if len(words) > 0:
                rows.append((row_kind, 0, tuple(words)))
    return rows
