"""Plans of rings: which hands of which arrow do what in so many rounds."""

from neverheaps.errors import Gains
from neverheaps.exact import made_whole
from neverheaps.forms import are_counts, is_integer
from neverheaps.held import why_not
from neverheaps.play import added, is_within, no_heaps
from neverheaps.rings import rings_of, sum_of
from neverheaps.ways import can_work_off, sums_by, tariff_against
from neverheaps.works import levels


def _given_out(left, hand, recipes, many):
    """So many hands given to the recipes that want this hand; what is left is taken down."""
    given = [0] * len(recipes)
    for index, recipe in enumerate(recipes):
        if recipe[2] == hand:
            given[index] = min(left[index], many - sum(given))
            left[index] -= given[index]
    return given


def _arrow_row(works, left, crew, times):
    """How often each recipe is done by the hands of an arrow; what is left is taken down."""
    row = [0] * len(works[2])
    for hand, many in zip(works[1], crew):
        row = added(row, _given_out(left, hand, works[2], times * many))
    return tuple(row)


def given_to_arrows(works, sender, ring, times, counts):
    """How often each recipe is done, given to the hands of the arrows of a ring: the rows and free of a plan."""
    left = list(counts)
    rows = tuple([_arrow_row(works, left, sender[1][index][3], times) for index in ring])
    # All that wants a hand is given out by now.
    return rows, tuple(left)


def plan_of(works, sender, ring):
    """A plan of the ring."""
    amounts, crew = sum_of(works, sender, ring)
    shares = can_work_off(works, amounts, crew)
    if shares is None:
        raise Gains(ring, tariff_against(works, amounts, crew))
    times, counts = made_whole(shares)
    rows, free = given_to_arrows(works, sender, ring, times, counts)
    return times, rows, free


def held_rings(works, sender):
    """The ascending list of all rings; Gains if one of them gains by a fair tariff."""
    rings = rings_of(sender)
    reason = why_not(works, sender)
    if reason is not None:
        raise Gains(reason[0], reason[1])
    return rings


def plans_of(works, sender):
    """The list of all rings with a plan of each, if the works holds the sender."""
    return [(ring, plan_of(works, sender, ring)) for ring in held_rings(works, sender)]


def total_of(plan):
    """How often each recipe is done by a plan, or by a throwing plan."""
    counts = plan[-1]
    for row in plan[-2]:
        counts = added(counts, row)
    return counts


def _is_plan_form(works, ring, thing):
    """Whether thing has the numbers that a plan has."""
    if not isinstance(thing, tuple) or len(thing) != 3:
        return False
    times, rows, free = thing
    if not is_integer(times) or times < 1 or not isinstance(rows, tuple) or len(rows) != len(ring):
        return False
    return all([are_counts(row, len(works[2])) for row in rows + (free,)])


def _is_done_by(works, row, crew, times):
    """Whether a row has only what as many crews of an arrow can do."""
    for many, recipe in zip(row, works[2]):
        if many > 0 and recipe[2] is None:
            return False
    _, hands = sums_by(works, row)
    return is_within(hands, [times * many for many in crew])


def is_plan_with(works, sender, ring, thrown, thing):
    """Whether thing is a plan of the ring, but that these AMOUNTS are left of what the ring brings."""
    if not _is_plan_form(works, ring, thing):
        return False
    times, rows, free = thing
    for row, index in zip(rows, ring):
        if not _is_done_by(works, row, sender[1][index][3], times):
            return False
    if any([many > 0 and recipe[2] is not None for many, recipe in zip(free, works[2])]):
        return False
    brought, _ = sum_of(works, sender, ring)
    worked, _ = sums_by(works, total_of(thing))
    return added(worked, thrown) == tuple([times * many for many in brought])


def is_plan(works, sender, ring, thing):
    """Whether thing is a plan of the ring."""
    return is_plan_with(works, sender, ring, no_heaps(works), thing)


def row_deeds(works, counts):
    """The indexes of recipes, each as often as counts says, those of less depth ahead."""
    depths = levels(works)
    deeds = []
    for _, index in sorted([(depth, index) for index, depth in enumerate(depths)]):
        deeds += [index] * counts[index]
    return tuple(deeds)
