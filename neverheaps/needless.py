"""Recipes and hands without which a works bears as much."""

from itertools import combinations

from neverheaps.against import first_too_great
from neverheaps.ways import ways_of


def _bits(lot):
    """The number that has the bit of each index of a lot."""
    return sum([1 << index for index in lot])


def least_lots_of(many, most, does):
    """The ascending list of the lots of at most `most` of so many indexes that do, while no lesser part of them does.

    What a lot does, each greater one does, too; so parts of what was found need no look.
    """
    found, parts = [], []
    for size in range(min(many, most) + 1):
        for lot in combinations(range(many), size):
            bits = _bits(lot)
            if not any([(part & bits) == part for part in parts]) and does(lot):
                found.append(lot)
                parts.append(bits)
    return sorted(found)


def others_of(many, lot):
    """The ascending tuple of those of so many indexes that are not in a lot."""
    return tuple([index for index in range(many) if index not in lot])


def works_of(works, lot):
    """The works that has the recipes of the lot alone."""
    kinds, hands, recipes = works
    return kinds, hands, tuple([recipes[index] for index in lot])


def _bears(works, lot, ways):
    """Whether the works of the lot works off all these ways."""
    return first_too_great(works_of(works, lot), ways) is None


def needless_recipes(works):
    """The ascending list of the indexes of recipes without which, one at a time, the works bears as much."""
    many, ways = len(works[2]), ways_of(works)
    return [index for index in range(many) if _bears(works, others_of(many, (index,)), ways)]


def least_lots(works):
    """The ascending list of the lots whose works bears as much as the whole, and no lesser part of which does."""
    return least_bearing(works, works)


def needless_hands(works):
    """The names of the hands without all of whose recipes, one hand at a time, the works bears as much."""
    many, ways = len(works[2]), ways_of(works)
    found = []
    for hand in works[1]:
        wanting = [index for index in range(many) if works[2][index][2] == hand]
        if _bears(works, others_of(many, wanting), ways):
            found.append(hand)
    return tuple(found)


def greatest_apart(works, other):
    """The ascending list of the lots whose works does not bear the other one, and that lie in no other such lot."""
    many, ways = len(works[2]), ways_of(other)
    gone = least_lots_of(many, many, lambda lot: not _bears(works, others_of(many, lot), ways))
    return sorted([others_of(many, lot) for lot in gone])


def least_bearing(works, other):
    """The ascending list of the lots whose works bears the other one, and no lesser part of which does."""
    many, ways = len(works[2]), ways_of(other)
    return least_lots_of(many, many, lambda lot: _bears(works, lot, ways))
