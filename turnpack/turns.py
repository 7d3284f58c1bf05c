"""The turns of a text, sorted, and their last column."""


def moved(row, width):
    """The row turned, so that each place holds what stood so many places behind it."""
    cut = width % len(row)
    return row[cut:] + row[:cut]


def widened(keys, base, width):
    """Keys for twice the width: each with the key behind it, all below the base, as one number."""
    return [front * base + back for front, back in zip(keys, moved(keys, width))]


def ranks_of(order, keys):
    """For each turn, how many different keys are below its own."""
    ranks = [0] * len(order)
    rank = 0
    last = keys[order[0]]
    for start in order:
        key = keys[start]
        if key != last:
            rank += 1
            last = key
        ranks[start] = rank
    return ranks


def by_keys(order, keys):
    """The turns sorted by their keys; equal ones stay in the order they had."""
    return sorted(order, key=lambda start: keys[start])


def first_keys(text):
    """For each turn its first eight bytes as one number."""
    pairs = widened(text, 256, 1)
    fours = widened(pairs, 256 ** 2, 2)
    return widened(fours, 256 ** 4, 4)


def sorted_turns(text):
    """Where the turns of a text begin, in their sorted order; equal ones by where they begin."""
    width = 8
    keys = first_keys(text)
    order = by_keys(list(range(len(text))), keys)
    ranks = ranks_of(order, keys)
    parts = 0
    # Once twice the width parts no two turns more, no width does: what is equal then is equal throughout.
    while parts < ranks[order[-1]] < len(text) - 1:
        parts = ranks[order[-1]]
        keys = widened(ranks, len(text), width)
        order = by_keys(order, keys)
        ranks = ranks_of(order, keys)
        width = 2 * width
    return order


def last_column(text, order):
    """The last byte of each turn: the one ahead of where it begins."""
    return [text[start - 1] for start in order]
