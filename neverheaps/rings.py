"""Rings of senders, and what arrows bring together."""

from neverheaps.errors import TooMany
from neverheaps.forms import places_come_to
from neverheaps.play import brought_by
from neverheaps.tariffs import pay, worth

MOST_RINGS = 2000


def come_to(sender):
    """The ascending tuple of the places that are come to."""
    return places_come_to(sender)


def turned(sender, arrows):
    """The ring that these arrows, which lead back to where they begin, are a round of."""
    sources = [sender[1][index][0] for index in arrows]
    first = sources.index(min(sources))
    return arrows[first:] + arrows[:first]


def _sources_into(sender):
    """For each place to which arrows lead the list of their sources."""
    sources = {}
    for source, target, _, _ in sender[1]:
        sources.setdefault(target, []).append(source)
    return sources


def _leading_back(sources, start, passed):
    """The dict of the places that lead to the start by places above it that are not passed."""
    back = {start: True}
    left = [start]
    while left:
        place = left.pop()
        for source in sources.get(place, []):
            if source > start and source not in back and source not in passed:
                back[source] = True
                left.append(source)
    return back


def _rings_from(sender, start, most):
    """The rings whose least place is the start; if there are more than most, some more than most."""
    sources = _sources_into(sender)
    found, paths = [], [()]
    while paths and len(found) <= most:
        path = paths.pop()
        last = sender[1][path[-1]][1] if path else start
        # Each path that is kept leads to a ring: so no time is lost in paths that lead to none.
        back = _leading_back(sources, start, {sender[1][index][1]: True for index in path})
        for index, (source, target, _, _) in enumerate(sender[1]):
            if source == last and target == start:
                found.append(path + (index,))
            elif source == last and target in back:
                paths.append(path + (index,))
    return found


def rings_of(sender):
    """The ascending list of all rings."""
    found = []
    for start in come_to(sender):
        found += _rings_from(sender, start, MOST_RINGS - len(found))
        if len(found) > MOST_RINGS:
            raise TooMany(MOST_RINGS)
    return sorted(found)


def sum_of(works, sender, indexes):
    """The tuple (amounts, crew) that arrows bring together, each as often as its index stands there."""
    return brought_by(works, sender, indexes)


def gain_of(sender, tariff, indexes):
    """The sum of the gains of arrows by a tariff."""
    gain = 0
    for index in indexes:
        _, _, amounts, crew = sender[1][index]
        gain += worth(tariff, amounts) - pay(tariff, crew)
    return gain
