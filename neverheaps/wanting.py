"""What is wanting: recipes with which a sender is held, and arrows without which it is."""

from neverheaps.against import first_too_great
from neverheaps.errors import TooMany
from neverheaps.held import holds
from neverheaps.needless import least_lots_of
from neverheaps.parts import without_arrows
from neverheaps.rings import come_to, rings_of, sum_of

MOST_WANTING = 5
MOST_BARRED = 3


def wanting(works, sender, recipes):
    """The ascending list of the least lots of the further recipes with which the works holds the sender."""
    if len(recipes) > MOST_WANTING:
        raise TooMany(MOST_WANTING)
    # Called for what it raises alone: whether the sender is held is told without its rings.
    rings_of(sender)
    kinds, hands, own = works
    many = len(recipes)
    return least_lots_of(
        many, many, lambda lot: holds((kinds, hands, own + tuple([recipes[index] for index in lot])), sender)
    )


def bad_rings(works, sender):
    """The ascending list of the rings whose crews together do not work off their amounts together."""
    bad, known = [], {}
    for ring in rings_of(sender):
        couple = sum_of(works, sender, ring)
        # Many rings bring the same.
        if couple not in known:
            known[couple] = first_too_great(works, [couple]) is not None
        if known[couple]:
            bad.append(ring)
    return bad


def _is_barred(sender, rings, lot):
    """Whether none of the rings is left without the arrows of the lot."""
    come = come_to(without_arrows(sender, lot))
    for ring in rings:
        if sender[1][ring[0]][0] in come and not any([index in ring for index in lot]):
            return False
    return True


def barring(works, sender, most):
    """The ascending list of the least lots of at most so many arrows without which the works holds the sender."""
    if most > MOST_BARRED:
        raise TooMany(MOST_BARRED)
    rings = bad_rings(works, sender)
    return least_lots_of(len(sender[1]), most, lambda lot: _is_barred(sender, rings, lot))
