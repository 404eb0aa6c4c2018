"""What has to be thrown away of what rings bring, and what that costs at least."""

from neverheaps.exact import dot, is_less, lowest_terms, made_whole, negated, unit_row
from neverheaps.forms import is_fraction, is_integer, is_shares, is_tariff
from neverheaps.play import added, is_within
from neverheaps.rings import gain_of, rings_of, sum_of
from neverheaps.spans import dearest_row, least_shares
from neverheaps.tariffs import columns_of, is_fair
from neverheaps.ways import sums_by


def _thrown_columns(works):
    """What a share of each recipe works off and wants, what each idle hand is, then what each thing thrown away is."""
    kinds, hands, _ = works
    thrown = [unit_row(len(kinds), kind) + (0,) * len(hands) for kind in range(len(kinds))]
    return columns_of(works) + tuple(thrown)


def _column_costs(works, costs):
    """What a share of each column costs: only what is thrown away costs something."""
    return (0,) * (len(works[2]) + len(works[1])) + costs


def _goal(works, sender, ring):
    """What a ring brings and its crews, as one row."""
    amounts, crew = sum_of(works, sender, ring)
    return amounts + crew


def _cost(thrown, costs):
    """What thrown things cost, a FRACTION."""
    times, many = made_whole(thrown)
    return lowest_terms(dot(many, costs), times)


def loss_shares(works, sender, ring, costs):
    """THROWN things of the ring that cost as little as can be, and the shares that go with them."""
    shares = least_shares(_thrown_columns(works), _goal(works, sender, ring), _column_costs(works, costs))
    return shares[-len(works[0]):], shares[:len(works[2])]


def ring_loss(works, sender, ring, costs):
    """The least cost of THROWN things of the ring."""
    thrown, _ = loss_shares(works, sender, ring, costs)
    return _cost(thrown, costs)


def _is_couple(thing):
    """Whether thing is a tuple of two."""
    return isinstance(thing, tuple) and len(thing) == 2


def _is_thrown(works, thing):
    """Whether thing is a FRACTION from 0 on for each kind."""
    if not isinstance(thing, tuple) or len(thing) != len(works[0]):
        return False
    return all([is_fraction(item) and item[0] >= 0 for item in thing])


def is_loss_shares(works, sender, ring, thing):
    """Whether thing has THROWN things of the ring, and SHARES with which they are so."""
    if not _is_couple(thing) or not _is_thrown(works, thing[0]) or not is_shares(works, thing[1]):
        return False
    times, many = made_whole(thing[0] + thing[1])
    worked, hands = sums_by(works, many[len(works[0]):])
    amounts, crew = sum_of(works, sender, ring)
    if added(worked, many[:len(works[0])]) != tuple([times * item for item in amounts]):
        return False
    return is_within(hands, [times * item for item in crew])


def loss_tariff(works, sender, ring, costs):
    """A tuple (scale, tariff) that proves that nothing less can be thrown; None if nothing has to be."""
    if ring_loss(works, sender, ring, costs) == (0, 1):
        return None
    scale, row = dearest_row(_thrown_columns(works), _goal(works, sender, ring), _column_costs(works, costs))
    many = len(works[0])
    return scale, (row[:many], negated(row[many:]))


def is_loss_tariff(works, sender, ring, costs, thing):
    """Whether thing is a tuple (scale, tariff) that proves the loss of the ring, which is above 0."""
    num, den = ring_loss(works, sender, ring, costs)
    if num == 0 or not _is_couple(thing):
        return False
    scale, tariff = thing
    if not is_integer(scale) or scale < 1 or not is_tariff(works, tariff) or not is_fair(works, tariff):
        return False
    if not is_within(tariff[0], [scale * cost for cost in costs]):
        return False
    return den * gain_of(sender, tariff, ring) == scale * num


def _mean_losses(works, sender, costs):
    """The ascending list of all rings, each with its loss divided by the number of its arrows."""
    found = []
    for ring in rings_of(sender):
        num, den = ring_loss(works, sender, ring, costs)
        found.append((ring, lowest_terms(num, den * len(ring))))
    return found


def _worst(works, sender, costs):
    """The least ring with the greatest loss a beat, and this loss; (None, (0, 1)) if there is no ring."""
    worst, greatest = None, (0, 1)
    for ring, mean in _mean_losses(works, sender, costs):
        if worst is None or is_less(greatest, mean):
            worst, greatest = ring, mean
    return worst, greatest


def least_loss(works, sender, costs):
    """The greatest loss a beat of any ring."""
    _, greatest = _worst(works, sender, costs)
    return greatest


def worst_ring(works, sender, costs):
    """The least ring whose loss a beat is the greatest one; None if there is no ring."""
    worst, _ = _worst(works, sender, costs)
    return worst
