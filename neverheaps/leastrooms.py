"""Least rooms that are enough."""

from neverheaps.ends import all_within
from neverheaps.errors import TooMany
from neverheaps.play import is_within
from neverheaps.tables import Moves, holds_none, safe_lots

MOST_ROOMS = 200


def moves_within(works, sender, most):
    """The moves within the rooms whose items are all most; TooMany if there are more than 200 lesser rooms."""
    many = 1
    for _ in works[0]:
        many *= most + 1
    if many > MOST_ROOMS:
        raise TooMany(MOST_ROOMS)
    return Moves(works, sender, (most,) * len(works[0]))


def are_above(rooms, others):
    """Whether some of the others are nowhere greater than the rooms."""
    return any([is_within(less, rooms) for less in others])


def least_rooms(works, sender, most):
    """The ascending list of all least rooms, without an item above most, that are enough."""
    moves = moves_within(works, sender, most)
    found = []
    # Lesser rooms stand ahead; where they are enough, these are not least.
    for rooms in all_within(moves.box.rooms):
        if not are_above(rooms, found) and holds_none(safe_lots(moves, sender, moves.box.below(rooms))):
            found.append(rooms)
    return found
