"""Builders whose heaps are nowhere greater than those of anyone else who keeps the rooms."""

from neverheaps.errors import NoLeast, NotEnough
from neverheaps.hindsight import first_breaking, lots_in, runs_to_lots
from neverheaps.tables import Moves


def _least_in(moves, lot):
    """The number of the heaps of a lot that are nowhere greater than any other ones of it; None if there are none."""
    # The number is the least one if they are there at all.
    number = (lot & -lot).bit_length() - 1
    if lot & ~moves.box.above(moves.box.members[number]) > 0:
        return None
    return number


def _leads_to_least(moves, index, lot, behind):
    """Whether the lot behind an arrow has least heaps, and the arrow leads to them from those of the lot ahead."""
    number = _least_in(moves, behind)
    if number is None:
        return False
    return moves.led_to(index, 1 << _least_in(moves, lot)) & (1 << number) > 0


def _first_not_least(moves, sender):
    """The shortest, least run behind which no builder is least; None if one is on all runs."""
    runs = runs_to_lots(moves, sender, moves.box.full)
    run = first_breaking(runs)
    if run is not None:
        raise NotEnough(run)
    # The runs stand in their order: so the first one that is found is the shortest, least one.
    for (place, lot), run in runs.items():
        for index, (source, _, _, _) in enumerate(sender[1]):
            if source == place and not _leads_to_least(moves, index, lot, moves.led_to(index, lot)):
                return run + (index,)
    return None


def least_break(works, sender, rooms):
    """The shortest, least run behind which no builder is least; None if there is a least builder."""
    return _first_not_least(Moves(works, sender, rooms), sender)


def lowest_play(works, sender, rooms, run):
    """The play of a run by the least builder."""
    moves = Moves(works, sender, rooms)
    missing = _first_not_least(moves, sender)
    if missing is not None:
        raise NoLeast(missing)
    play, known = [], {}
    lots = lots_in(moves, run)
    for index, lot, behind in zip(run, lots, lots[1:]):
        step = (index, _least_in(moves, lot), _least_in(moves, behind))
        if step not in known:
            known[step] = moves.beat_of(index).deeds_into(1 << step[1], 1 << step[2])[step[1]]
        play.append(known[step])
    return play
