"""Shelves: the pairs of heads that were told lately."""

MOST_WEIGHT = 96
WEIGHT_OF_A_PAIR = 4


class Shelf:
    """Pairs of a name and a value, the newest ahead."""

    def __init__(self):
        self.pairs = []

    def put(self, pair):
        """Puts a pair ahead of all others; the last ones go until the rest is light enough."""
        self.pairs.insert(0, pair)
        weight = sum([pair_weight(kept) for kept in self.pairs])
        while weight > MOST_WEIGHT:
            weight -= pair_weight(self.pairs.pop())


def pair_weight(pair):
    """What a pair weighs."""
    return len(pair[0]) + len(pair[1]) + WEIGHT_OF_A_PAIR
