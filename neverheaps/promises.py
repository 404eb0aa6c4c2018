"""Promises: senders that break, or bring, at most so much in so many beats."""

from math import comb

from neverheaps.errors import TooMany
from neverheaps.exact import unit_row
from neverheaps.heights import greatest_sums
from neverheaps.play import no_heaps
from neverheaps.works import hand_place, kind_place

MOST_HISTORIES = 200


def _histories(size, greatest, most):
    """The ascending list of the tuples of so many integers, each at most the greatest, with a sum of at most most."""
    found = [()]
    for _ in range(size):
        found = [row + (item,) for row in found for item in range(1 + min(greatest, most - sum(row)))]
    return found


def _behind(history, item):
    """The history behind a beat."""
    return (history + (item,))[1:]


def _sender(histories, greatest, most, loads):
    """The sender whose places are the histories; an arrow whose item is k has the k-th load, (amounts, crew)."""
    places = {history: place for place, history in enumerate(histories)}
    arrows = []
    for place, history in enumerate(histories):
        for item in range(1 + min(greatest, most - sum(history))):
            amounts, crew = loads[item]
            arrows.append((place, places[_behind(history, item)], amounts, crew))
    return len(histories), tuple(arrows)


def at_most_broken(works, name, broken, window):
    """The breaker that brings one hand at each beat, but in at most `broken` of any window beats."""
    amounts, crew = no_heaps(works), unit_row(len(works[1]), hand_place(works, name))
    loads = [(amounts, crew), (amounts, (0,) * len(crew))]
    return _sender(_histories(window - 1, 1, broken), 1, broken, loads)


def at_most_come(works, name, many, window):
    """The bringer that brings at most so many things of a kind in any window beats."""
    one, crew = unit_row(len(works[0]), kind_place(works, name)), (0,) * len(works[1])
    if comb(window - 1 + many, many) > MOST_HISTORIES:
        raise TooMany(MOST_HISTORIES)
    loads = [(tuple([item * times for item in one]), crew) for times in range(many + 1)]
    return _sender(_histories(window - 1, many, many), many, many, loads)


def _most_in(sender, gains, window):
    """The greatest sum of gains, from 0 on, of at most window arrows, one behind the other, of any run."""
    return max([max(list(sums.values()), default=0) for sums in greatest_sums(sender, gains, window)])


def most_broken(works, breaker, name, window):
    """The greatest number of beats that lack the hand, among at most window beats of any run."""
    place = hand_place(works, name)
    return _most_in(breaker, [1 if crew[place] == 0 else 0 for _, _, _, crew in breaker[1]], window)


def most_come(works, bringer, name, window):
    """The greatest number of things of a kind that come in at most window beats of any run."""
    place = kind_place(works, name)
    return _most_in(bringer, [amounts[place] for _, _, amounts, _ in bringer[1]], window)
