"""Tariffs: prices and wages, and the books of which all fair ones are shared sums."""

from neverheaps.exact import dot, negated, prime_row, unit_row
from neverheaps.forms import is_tariff
from neverheaps.spans import edges_of, shares_for


def worth(tariff, amounts):
    """The WORTH of amounts by a tariff."""
    return dot(tariff[0], amounts)


def pay(tariff, crew):
    """The PAY of a crew by a tariff."""
    return dot(tariff[1], crew)


def used_up(recipe):
    """The takes less the puts of a recipe."""
    takes, puts, _ = recipe
    return tuple([taken - put for taken, put in zip(takes, puts)])


def wanted(works, recipe):
    """The crew that a recipe wants: one of its hand, or none."""
    return tuple([1 if hand == recipe[2] else 0 for hand in works[1]])


def _is_fair_for(works, tariff, recipe):
    """Whether a recipe makes no loss by the tariff."""
    return worth(tariff, used_up(recipe)) <= pay(tariff, wanted(works, recipe))


def is_fair(works, tariff):
    """Whether a TARIFF is fair."""
    return all([_is_fair_for(works, tariff, recipe) for recipe in works[2]])


def columns_of(works):
    """What a share of each recipe works off and wants, then what each hand is that does nothing."""
    kinds, hands, recipes = works
    columns = [used_up(recipe) + wanted(works, recipe) for recipe in recipes]
    idle = [(0,) * len(kinds) + unit_row(len(hands), hand) for hand in range(len(hands))]
    return tuple(columns + idle)


def _fair_rows(works):
    """The rows whose product with the row of each fair tariff is at most 0, and with no other one."""
    many = len(works[0])
    return tuple([column[:many] + negated(column[many:]) for column in columns_of(works)])


def book_of(works):
    """The ascending list of prime fair tariffs of which all fair ones are shared sums, none needless."""
    many = len(works[0])
    edges = edges_of(_fair_rows(works), many + len(works[1]))
    return [(edge[:many], edge[many:]) for edge in edges]


def is_book(works, thing):
    """Whether thing is a list of fair tariffs of which each fair tariff is a shared sum."""
    if not isinstance(thing, list) or not all([is_tariff(works, item) for item in thing]):
        return False
    if not all([is_fair(works, tariff) for tariff in thing]):
        return False
    rows = {prime_row(prices + wages): True for prices, wages in thing}
    columns = tuple(sorted(rows))
    for prices, wages in book_of(works):
        # A row that stands there needs no search.
        if (prices + wages) not in rows and shares_for(columns, prices + wages) is None:
            return False
    return True
