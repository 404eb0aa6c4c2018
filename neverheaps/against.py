"""Works against works: which one bears all that another one does."""

from neverheaps.errors import TooMany
from neverheaps.forms import MOST_RECIPES
from neverheaps.tariffs import book_of, pay, worth
from neverheaps.ways import tariff_against, ways_of


def first_too_great(works, couples):
    """The first tuple (amounts, crew) whose crew does not work off its amounts; None if there is none."""
    book = book_of(works)
    for amounts, crew in couples:
        if any([worth(tariff, amounts) > pay(tariff, crew) for tariff in book]):
            return amounts, crew
    return None


def way_between(one, other):
    """The least way of other whose crew does not work off its amounts in one; None if one bears other."""
    return first_too_great(one, ways_of(other))


def bears_all(one, other):
    """Whether one holds all senders that other holds."""
    return way_between(one, other) is None


def are_alike(one, other):
    """Whether each one bears the other one."""
    return bears_all(one, other) and bears_all(other, one)


def parting_sender(one, other):
    """A sender of one arrow that other holds and one does not; None if one bears other."""
    way = way_between(one, other)
    if way is None:
        return None
    amounts, crew = way
    return 1, ((0, 0, amounts, crew),)


def parting_tariff(one, other):
    """A tariff that is fair for one, by which the arrow of the parting sender gains; None if one bears other."""
    way = way_between(one, other)
    if way is None:
        return None
    amounts, crew = way
    return tariff_against(one, amounts, crew)


def joint_works(one, other):
    """The works with the recipes of both, those of one first."""
    kinds, hands, recipes = one
    if len(recipes) + len(other[2]) > MOST_RECIPES:
        raise TooMany(MOST_RECIPES)
    return kinds, hands, recipes + other[2]
