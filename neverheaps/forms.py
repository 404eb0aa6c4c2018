"""Whether any value is what a word of the document says."""

from math import gcd

from neverheaps.errors import CannotBeDone
from neverheaps.play import added, after, no_heaps

MOST_LETTERS = 6
MOST_KINDS = 5
MOST_HANDS = 3
MOST_RECIPES = 8


def is_integer(thing):
    """Whether thing is an integer, and no truth."""
    return isinstance(thing, int) and not isinstance(thing, bool)


def _is_count(thing):
    """Whether thing is an integer from 0 on."""
    return is_integer(thing) and thing >= 0


def _is_index(thing, many):
    """Whether thing is an index of one of so many."""
    return _is_count(thing) and thing < many


def _is_row(thing, size):
    """Whether thing is a tuple of so many items."""
    return isinstance(thing, tuple) and len(thing) == size


def are_counts(thing, size):
    """Whether thing is a tuple of so many integers from 0 on."""
    return _is_row(thing, size) and all([_is_count(item) for item in thing])


def is_name(thing):
    """Whether thing is a NAME."""
    if not isinstance(thing, str) or not 1 <= len(thing) <= MOST_LETTERS:
        return False
    return all(["a" <= letter <= "z" for letter in thing])


def is_fraction(thing):
    """Whether thing is a FRACTION."""
    if not _is_row(thing, 2) or not all([is_integer(item) for item in thing]):
        return False
    return thing[1] >= 1 and gcd(thing[0], thing[1]) == 1


def _are_names(thing, least, most):
    """Whether thing is a tuple of different NAMES, at least and at most so many."""
    if not isinstance(thing, tuple) or not least <= len(thing) <= most:
        return False
    seen = {}
    for name in thing:
        if not is_name(name) or name in seen:
            return False
        seen[name] = True
    return True


def is_works(thing):
    """Whether thing is a WORKS."""
    if not _is_row(thing, 3):
        return False
    kinds, hands, recipes = thing
    if not _are_names(kinds, 1, MOST_KINDS) or not _are_names(hands, 0, MOST_HANDS):
        return False
    if any([hand in kinds for hand in hands]):
        return False
    if not isinstance(recipes, tuple) or len(recipes) > MOST_RECIPES:
        return False
    return all([is_recipe(thing, recipe) for recipe in recipes])


def is_amounts(works, thing):
    """Whether thing is AMOUNTS of the works."""
    return are_counts(thing, len(works[0]))


def is_crew(works, thing):
    """Whether thing is a CREW of the works."""
    return are_counts(thing, len(works[1]))


def stands_behind(takes, puts):
    """Whether each kind that is put stands behind each one that is taken, and something is taken."""
    taken = [kind for kind, many in enumerate(takes) if many > 0]
    put = [kind for kind, many in enumerate(puts) if many > 0]
    if not taken:
        return False
    return not put or put[0] > taken[-1]


def is_recipe(works, thing):
    """Whether thing is a RECIPE that may stand in the works."""
    if not _is_row(thing, 3):
        return False
    takes, puts, hand = thing
    if not is_amounts(works, takes) or not is_amounts(works, puts):
        return False
    if hand is not None and hand not in works[1]:
        return False
    return stands_behind(takes, puts)


def _are_indexes(thing, many):
    """Whether thing is a tuple of indexes of so many."""
    return isinstance(thing, tuple) and all([_is_index(item, many) for item in thing])


def is_deeds(works, thing):
    """Whether thing is a tuple of indexes of recipes."""
    return _are_indexes(thing, len(works[2]))


def _is_arrow(works, places, thing):
    """Whether thing is an ARROW between so many places."""
    if not _is_row(thing, 4):
        return False
    source, target, amounts, crew = thing
    if not _is_index(source, places) or not _is_index(target, places):
        return False
    return is_amounts(works, amounts) and is_crew(works, crew)


def is_sender(works, thing):
    """Whether thing is a SENDER of the works."""
    if not _is_row(thing, 2):
        return False
    places, arrows = thing
    if not is_integer(places) or places < 1 or not isinstance(arrows, tuple):
        return False
    return all([_is_arrow(works, places, arrow) for arrow in arrows])


def _leads_on(sender, place, indexes):
    """Whether arrows with these indexes lead on, one behind the other, from the place."""
    at = place
    for index in indexes:
        if sender[1][index][0] != at:
            return False
        at = sender[1][index][1]
    return True


def is_run(sender, thing):
    """Whether thing is a RUN of the sender."""
    return _are_indexes(thing, len(sender[1])) and _leads_on(sender, 0, thing)


def places_come_to(sender):
    """The ascending tuple of the places that are come to."""
    come = {0: True}
    grows = True
    while grows:
        grows = False
        for source, target, _, _ in sender[1]:
            if source in come and target not in come:
                come[target] = True
                grows = True
    return tuple(sorted(come))


def is_ring(sender, thing):
    """Whether thing is a RING of the sender."""
    if not _are_indexes(thing, len(sender[1])) or len(thing) == 0:
        return False
    sources = [sender[1][index][0] for index in thing]
    seen = {source: True for source in sources}
    if len(seen) < len(sources) or sources[0] != min(sources):
        return False
    # All places of what is closed are come to if one of them is.
    if sources[0] not in places_come_to(sender):
        return False
    return _leads_on(sender, sources[0], thing) and sender[1][thing[-1]][1] == sources[0]


def is_play(works, sender, run, thing):
    """Whether thing is a PLAY of the run."""
    if not isinstance(thing, list) or len(thing) != len(run):
        return False
    heaps = no_heaps(works)
    for index, deeds in zip(run, thing):
        if not is_deeds(works, deeds):
            return False
        _, _, amounts, crew = sender[1][index]
        try:
            heaps = after(works, added(heaps, amounts), crew, deeds)
        except CannotBeDone:
            return False
    return True


def is_tariff(works, thing):
    """Whether thing is a TARIFF of the works."""
    if not _is_row(thing, 2):
        return False
    prices, wages = thing
    if not _is_row(prices, len(works[0])) or not are_counts(wages, len(works[1])):
        return False
    if not all([is_integer(price) for price in prices]):
        return False
    return any([item != 0 for item in prices + wages])


def is_shares(works, thing):
    """Whether thing is a FRACTION from 0 on for each recipe of the works."""
    if not _is_row(thing, len(works[2])):
        return False
    return all([is_fraction(share) and share[0] >= 0 for share in thing])
