"""Deeds that are done by an order of the recipes."""

from neverheaps.errors import TooMany
from neverheaps.forms import is_deeds
from neverheaps.play import added, behind_deed, no_heaps

MOST_DEEDS = 1000


def is_order(works, thing):
    """Whether thing is an order: a tuple of all indexes of recipes, each once."""
    if not is_deeds(works, thing):
        return False
    return sorted(thing) == list(range(len(works[2])))


def _first_deed(works, order, heaps, crew):
    """The first recipe of the order that can be done, with the couple behind it; None if none can."""
    for index in order:
        couple = behind_deed(works, heaps, crew, index)
        if couple is not None:
            return index, couple
    return None


def _done_by(works, order, heaps, crew):
    """The deeds by the order, and the heaps behind them."""
    deeds = []
    lying, rest = heaps, crew
    found = _first_deed(works, order, lying, rest)
    while found is not None:
        if len(deeds) == MOST_DEEDS:
            raise TooMany(MOST_DEEDS)
        index, (lying, rest) = found
        deeds.append(index)
        found = _first_deed(works, order, lying, rest)
    return tuple(deeds), lying


def deeds_by(works, order, heaps, crew):
    """The deeds by the order: again and again the first recipe of it that can be done."""
    deeds, _ = _done_by(works, order, heaps, crew)
    return deeds


def order_play(works, sender, order, run):
    """The play of a run whose deeds are by the order."""
    heaps = no_heaps(works)
    play = []
    for index in run:
        _, _, amounts, crew = sender[1][index]
        deeds, heaps = _done_by(works, order, added(heaps, amounts), crew)
        play.append(deeds)
    return play
