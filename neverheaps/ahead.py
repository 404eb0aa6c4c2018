"""Builders that look ahead: they know the next arrows.

A VIEW is a tuple (place, indexes): a place, and so many arrows that may come next
there, or fewer up to a place without arrows. Before each beat it is known; then one
more arrow is told, if there is one, and the deeds of the first one are.
"""

from neverheaps.errors import TooMany
from neverheaps.tables import Moves, arrows_from

MOST_AHEAD = 3
MOST_VIEWS = 20000


def _count_views(sender, many):
    """How many views there are with so many arrows."""
    counts = [1] * sender[0]
    for _ in range(many):
        longer = [0] * sender[0]
        for source, target, _, _ in sender[1]:
            longer[source] += counts[target]
        # A place without arrows has just the view without any.
        counts = [max(1, count) for count in longer]
    return sum(counts)


def _longer(sender, place, indexes):
    """The tuples of these arrows, which come next at a place, and one more; these alone if there is none."""
    end = sender[1][indexes[-1]][1] if indexes else place
    further = arrows_from(sender, end)
    if not further:
        return [indexes]
    return [indexes + (index,) for index in further]


def _views(sender, many):
    """The list of all views with so many arrows."""
    views = [(place, ()) for place in range(sender[0])]
    for _ in range(many):
        views = [(place, longer) for place, indexes in views for longer in _longer(sender, place, indexes)]
    return views


def _steps(sender, view):
    """For each further arrow that may be told: the tuple of the arrow that comes, and the view behind it."""
    place, indexes = view
    found = []
    for longer in _longer(sender, place, indexes):
        if longer:
            found.append((longer[0], (sender[1][longer[0]][1], longer[1:])))
    return found


def _safe_lots(moves, sender, views):
    """The dict from all views to the lots of the heaps from which a builder with this view keeps rooms."""
    lots = {view: moves.box.full for view in views}
    steps = {view: _steps(sender, view) for view in views}
    # Many views ask for the same.
    known = {}
    changed = lots
    while changed:
        lower = {}
        for view in views:
            lot = lots[view]
            for index, behind in steps[view]:
                if behind in changed:
                    asked = (index, lots[behind])
                    if asked not in known:
                        known[asked] = moves.led_from(index, lots[behind])
                    lot &= known[asked]
            if lot != lots[view]:
                lots[view] = lot
                lower[view] = True
        changed = lower
    return lots


def _is_kept(moves, sender, many):
    """Whether a builder that looks so many arrows ahead keeps the rooms."""
    if len(moves.box.members) * _count_views(sender, many) > MOST_VIEWS:
        raise TooMany(MOST_VIEWS)
    lots = _safe_lots(moves, sender, _views(sender, many))
    return all([lot & 1 == 1 for (place, _), lot in lots.items() if place == 0])


def keeps_ahead(works, sender, rooms, many):
    """Whether a builder that looks so many arrows ahead keeps the rooms on all runs."""
    return _is_kept(Moves(works, sender, rooms), sender, many)


def least_ahead(works, sender, rooms):
    """The least number of arrows, up to 3, by which to look ahead does; None if 3 does not do."""
    moves = Moves(works, sender, rooms)
    for many in range(MOST_AHEAD + 1):
        if _is_kept(moves, sender, many):
            return many
    return None
