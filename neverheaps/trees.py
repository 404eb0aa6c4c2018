"""Trees of arrows against which nobody keeps rooms."""

from neverheaps.ends import numbers_in
from neverheaps.forms import is_integer
from neverheaps.tables import Moves, are_positions, holds_none, lost_rounds


def tree_against(works, sender, rooms):
    """The TREE of all positions that are not safe, with least numbers and arrows; None if rooms are enough."""
    moves = Moves(works, sender, rooms)
    safe, rounds = lost_rounds(moves, sender, moves.box.full)
    if holds_none(safe):
        return None
    tree = {}
    for at, lost in enumerate(rounds):
        for place, index, lot in lost:
            for number in numbers_in(lot):
                tree[(place, moves.box.members[number])] = (index, at + 1)
    return {position: tree[position] for position in sorted(tree)}


def _is_step(sender, place, thing):
    """Whether thing is a tuple of the index of an arrow from the place, and an integer from 1 on."""
    if not isinstance(thing, tuple) or len(thing) != 2:
        return False
    index, number = thing
    if not is_integer(index) or not 0 <= index < len(sender[1]) or sender[1][index][0] != place:
        return False
    return is_integer(number) and number >= 1


def _leads_down(moves, sender, tree, position):
    """Whether the arrow of a position leads only to positions with lesser numbers."""
    index, number = tree[position]
    target = sender[1][index][1]
    for ahead in numbers_in(moves.led_to(index, 1 << moves.box.number(position[1]))):
        behind = (target, moves.box.members[ahead])
        if behind not in tree or tree[behind][1] >= number:
            return False
    return True


def is_tree(works, sender, rooms, thing):
    """Whether thing is a TREE."""
    moves = Moves(works, sender, rooms)
    if not are_positions(works, sender, rooms, thing):
        return False
    if not all([_is_step(sender, place, step) for (place, _), step in thing.items()]):
        return False
    return all([_leads_down(moves, sender, thing, position) for position in thing])
