"""Rooms that some play of each run keeps, be it known only behind the run."""

from neverheaps.ends import all_within, numbers_in
from neverheaps.errors import TooMany
from neverheaps.leastrooms import are_above, moves_within
from neverheaps.tables import Moves, arrows_from

MOST_LOTS = 2000


def lots_in(moves, run):
    """For each moment of a run the lot of the heaps to which plays lead that keep rooms."""
    # No heaps have the number 0.
    lots = [1]
    for index in run:
        lots.append(moves.led_to(index, lots[-1]))
    return lots


def heaps_in(works, sender, rooms, run):
    """For each moment of a run the ascending list of the heaps to which plays lead that keep rooms."""
    moves = Moves(works, sender, rooms)
    return [[moves.box.members[number] for number in numbers_in(lot)] for lot in lots_in(moves, run)]


def runs_to_lots(moves, sender, within):
    """The dict from all couples of a place and a lot that come about to the shortest, least runs to them.

    Only heaps that are within a further lot count. The couples stand in the order of
    their runs: shorter ones first, then lesser ones.
    """
    runs = {(0, 1): ()}
    queue = [(0, 1)]
    indexes = [arrows_from(sender, place) for place in range(sender[0])]
    at = 0
    while at < len(queue):
        place, lot = queue[at]
        for index in indexes[place]:
            couple = (sender[1][index][1], moves.led_to(index, lot) & within)
            if couple not in runs:
                if len(queue) == MOST_LOTS:
                    raise TooMany(MOST_LOTS)
                runs[couple] = runs[queue[at]] + (index,)
                queue.append(couple)
        at += 1
    return runs


def first_breaking(runs):
    """The run of the first couple with an empty lot; None if there is none."""
    for (_, lot), run in runs.items():
        if lot == 0:
            return run
    return None


def breaking_run(works, sender, rooms):
    """The shortest, least run on which no play keeps the rooms; None if they are kept in hindsight."""
    moves = Moves(works, sender, rooms)
    return first_breaking(runs_to_lots(moves, sender, moves.box.full))


def _are_kept(moves, sender, rooms):
    """Whether rooms within the box are kept in hindsight."""
    return first_breaking(runs_to_lots(moves, sender, moves.box.below(rooms))) is None


def least_hindsight(works, sender, most):
    """The ascending list of all least rooms, without an item above most, that are kept in hindsight."""
    moves = moves_within(works, sender, most)
    if not _are_kept(moves, sender, moves.box.rooms):
        return []
    found = []
    for rooms in all_within(moves.box.rooms):
        if not are_above(rooms, found) and _are_kept(moves, sender, rooms):
            found.append(rooms)
    return found
