"""The table of a block: how long each symbol's word is, and the words."""

LONGEST_WORD = 17


def weights_of(symbols, count):
    """How often each of so many symbols is there, but at least 1."""
    weights = [0] * count
    for symbol in symbols:
        weights[symbol] += 1
    return [max(weight, 1) for weight in weights]


def joined_trees(weights):
    """For each tree but the last one, by its number, the number of the tree it is joined into."""
    count = len(weights)
    trees = sorted([(weight, number) for number, weight in enumerate(weights)])
    above = [0] * (2 * count - 2)
    for number in range(count, 2 * count - 1):
        first = trees[0]
        second = trees[1]
        above[first[1]] = number
        above[second[1]] = number
        trees = sorted(trees[2:] + [(first[0] + second[0], number)])
    return above


def depths_of(weights):
    """How deep each symbol lies when the trees are joined into one."""
    above = joined_trees(weights)
    depths = [0] * (len(above) + 1)
    # A tree has a lower number than the one it is joined into: downwards, each finds that one's depth.
    for number in range(len(above) - 1, -1, -1):
        depths[number] = depths[above[number]] + 1
    return depths[:len(weights)]


def lengths_of(weights):
    """The length of each symbol's word."""
    lengths = depths_of(weights)
    while max(lengths) > LONGEST_WORD:
        weights = [weight // 2 + 1 for weight in weights]
        lengths = depths_of(weights)
    return lengths


def words_of(lengths):
    """Each symbol's word as a number: shorter words first, of equally long ones lower symbols first."""
    words = [0] * len(lengths)
    word = 0
    for length in range(1, max(lengths) + 1):
        word = 2 * word
        for symbol, own in enumerate(lengths):
            if own == length:
                words[symbol] = word
                word += 1
    return words
