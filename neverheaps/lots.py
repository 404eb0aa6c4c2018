"""Lots: ascending tuples of indexes, of which the least ones are sought that do."""

from itertools import combinations


def _bits(lot):
    """The number that has the bit of each index of a lot."""
    return sum([1 << index for index in lot])


def least_lots_of(many, most, does):
    """The ascending list of the lots of at most `most` of so many indexes that do, while no lesser part of them does.

    What a lot does, each greater one does, too; so parts of what was found need no look.
    """
    found, parts = [], []
    for size in range(min(many, most) + 1):
        for lot in combinations(range(many), size):
            bits = _bits(lot)
            if not any([(part & bits) == part for part in parts]) and does(lot):
                found.append(lot)
                parts.append(bits)
    return sorted(found)


def others_of(many, lot):
    """The ascending tuple of those of so many indexes that are not in a lot."""
    return tuple([index for index in range(many) if index not in lot])
