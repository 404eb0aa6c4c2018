"""How many times the hands have to be there so that rings are worked off."""

from neverheaps.errors import NeverHelps
from neverheaps.exact import is_less, negated
from neverheaps.rings import rings_of, sum_of
from neverheaps.spans import dearest_row, least_shares, row_against
from neverheaps.tariffs import columns_of


def _factor_columns(works, crew):
    """What a share of each recipe works off and wants, what each idle hand is, then what the crews together have."""
    return columns_of(works) + ((0,) * len(works[0]) + negated(crew),)


def _column_costs(works):
    """What a share of each column costs: only the crews together cost something."""
    return (0,) * (len(works[2]) + len(works[1])) + (1,)


def _goal(works, amounts):
    """What has to be worked off by the columns alone."""
    return amounts + (0,) * len(works[1])


def _as_tariff(works, row):
    """The tariff that a row tells: its wages with their signs changed."""
    many = len(works[0])
    return row[:many], negated(row[many:])


def ring_factor(works, sender, ring):
    """The least number of times by which the crews of the ring together work off what it brings."""
    amounts, crew = sum_of(works, sender, ring)
    columns, goal = _factor_columns(works, crew), _goal(works, amounts)
    shares = least_shares(columns, goal, _column_costs(works))
    if shares is None:
        raise NeverHelps(ring, _as_tariff(works, row_against(columns, goal)))
    return shares[-1]


def least_factor(works, sender):
    """The greatest factor of a ring."""
    greatest = (0, 1)
    for ring in rings_of(sender):
        factor = ring_factor(works, sender, ring)
        if is_less(greatest, factor):
            greatest = factor
    return greatest


def factor_tariff(works, sender, ring):
    """A fair tariff that proves the factor of the ring; None if the factor is 0."""
    if ring_factor(works, sender, ring) == (0, 1):
        return None
    amounts, crew = sum_of(works, sender, ring)
    _, row = dearest_row(_factor_columns(works, crew), _goal(works, amounts), _column_costs(works))
    # The share of the crews is above 0, so the pay of the crews is just the scale.
    return _as_tariff(works, row)
