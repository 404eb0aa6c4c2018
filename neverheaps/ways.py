"""Ways: what crews work off, and what tells that a crew does not."""

from neverheaps.exact import made_whole, negated, unit_row
from neverheaps.forms import is_amounts, is_crew, is_shares
from neverheaps.play import added, is_within, no_heaps
from neverheaps.spans import edges_of, row_against, shares_for
from neverheaps.tariffs import book_of, columns_of, used_up, wanted


def can_work_off(works, amounts, crew):
    """SHARES in which the crew works off the amounts; None if there are none."""
    shares = shares_for(columns_of(works), amounts + crew)
    if shares is None:
        return None
    return shares[:len(works[2])]


def tariff_against(works, amounts, crew):
    """A fair tariff by which the amounts are worth more than the pay of the crew; None if there is none."""
    row = row_against(columns_of(works), amounts + crew)
    if row is None:
        return None
    many = len(works[0])
    return row[:many], negated(row[many:])


def sums_by(works, counts):
    """What the recipes, each done so often, work off, and the crew that they want."""
    worked, hands = (0,) * len(works[0]), (0,) * len(works[1])
    for count, recipe in zip(counts, works[2]):
        worked = added(worked, [count * many for many in used_up(recipe)])
        hands = added(hands, [count * many for many in wanted(works, recipe)])
    return worked, hands


def is_worked_off(works, amounts, crew, thing):
    """Whether thing is SHARES in which the crew works off the amounts."""
    if not is_shares(works, thing):
        return False
    times, counts = made_whole(thing)
    worked, hands = sums_by(works, counts)
    if worked != tuple([times * many for many in amounts]):
        return False
    return is_within(hands, [times * many for many in crew])


def _borne_rows(works):
    """The rows whose product is at most 0 with just those amounts, from 0 on, and crews that work them off."""
    size = len(works[0]) + len(works[1])
    rows = [prices + negated(wages) for prices, wages in book_of(works)]
    return tuple(rows + [negated(unit_row(size, kind)) for kind in range(len(works[0]))])


def ways_of(works):
    """The ascending list of all ways."""
    many = len(works[0])
    edges = edges_of(_borne_rows(works), many + len(works[1]))
    # An edge without amounts is a crew alone.
    return [(edge[:many], edge[many:]) for edge in edges if edge[:many] != no_heaps(works)]


def is_way(works, thing):
    """Whether thing is a way."""
    if not isinstance(thing, tuple) or len(thing) != 2:
        return False
    if not is_amounts(works, thing[0]) or not is_crew(works, thing[1]):
        return False
    return thing in ways_of(works)
