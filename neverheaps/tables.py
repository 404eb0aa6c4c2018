"""Tables: what is done at each position, so that rooms are kept on all runs."""

from neverheaps.ends import Beat, Box, numbers_in, shifted
from neverheaps.errors import CannotBeDone, TooMany
from neverheaps.forms import is_amounts, is_deeds, is_integer
from neverheaps.play import added, after, is_within, no_heaps

MOST_POSITIONS = 3000


class Moves:
    """Where the arrows of a sender lead from all positions."""

    def __init__(self, works, sender, rooms):
        many = sender[0]
        for room in rooms:
            many *= room + 1
        if many > MOST_POSITIONS:
            raise TooMany(MOST_POSITIONS)
        self.box = Box(rooms)
        self._works = works
        self._arrows = sender[1]
        leads = {}
        for _, _, amounts, crew in sender[1]:
            if (amounts, crew) not in leads:
                leads[(amounts, crew)] = Beat(works, self.box, amounts, crew).leads()
        self._leads = [leads[(amounts, crew)] for _, _, amounts, crew in sender[1]]

    def beat_of(self, index):
        """The beat of the arrow with this index."""
        _, _, amounts, crew = self._arrows[index]
        return Beat(self._works, self.box, amounts, crew)

    def led_to(self, index, lot):
        """The lot of the heaps to which the arrow leads from some heaps of a lot."""
        found = 0
        for by, fitting in self._leads[index].items():
            part = lot & fitting
            if part > 0:
                found |= shifted(part, by)
        return found

    def led_from(self, index, lot):
        """The lot of the heaps from which the arrow leads to some heaps of a lot."""
        found = 0
        for by, fitting in self._leads[index].items():
            found |= fitting & shifted(lot, -by)
        return found


def lost_rounds(moves, sender, lot):
    """What is safe within a lot of heaps, and what is not: the lots of all places that are safe, and the rounds.

    A round is a list of tuples (place, index, heaps): the heaps of a lot that have no
    way, by the arrow with this index, but to what was lost in the rounds ahead.
    """
    safe = [lot] * sender[0]
    rounds = []
    changed = {place: True for place in range(sender[0])}
    while changed:
        found = []
        left = list(safe)
        for index, (source, target, _, _) in enumerate(sender[1]):
            # Where nothing was lost at the target, nothing new is lost at the source.
            if target in changed:
                heaps = left[source] & ~moves.led_from(index, safe[target])
                if heaps > 0:
                    found.append((source, index, heaps))
                    left[source] -= heaps
        changed = {place: True for place, _, _ in found}
        rounds.append(found)
        safe = left
    return safe, rounds


def safe_lots(moves, sender, lot):
    """For each place the lot of the heaps that are safe within a lot of heaps."""
    safe, _ = lost_rounds(moves, sender, lot)
    return safe


def safe_positions(works, sender, rooms):
    """The ascending list of all safe positions."""
    moves = Moves(works, sender, rooms)
    found = []
    for place, lot in enumerate(safe_lots(moves, sender, moves.box.full)):
        found += [(place, moves.box.members[number]) for number in numbers_in(lot)]
    return found


def holds_none(lots):
    """Whether no heaps, whose number is 0, are in the lot of the place 0."""
    return lots[0] & 1 == 1


def are_enough(works, sender, rooms):
    """Whether some builder keeps the rooms on all runs."""
    moves = Moves(works, sender, rooms)
    return holds_none(safe_lots(moves, sender, moves.box.full))


def arrows_from(sender, place):
    """The ascending list of the indexes of the arrows from a place."""
    return [index for index, (source, _, _, _) in enumerate(sender[1]) if source == place]


def table_for(works, sender, rooms):
    """A TABLE whose keys are all safe positions; None if the first one is not safe."""
    moves = Moves(works, sender, rooms)
    safe = safe_lots(moves, sender, moves.box.full)
    if not holds_none(safe):
        return None
    told = []
    for index, (source, target, _, _) in enumerate(sender[1]):
        told.append(moves.beat_of(index).deeds_into(safe[source], safe[target]))
    table = {}
    for place, lot in enumerate(safe):
        indexes = arrows_from(sender, place)
        for number in numbers_in(lot):
            table[(place, moves.box.members[number])] = tuple([(index, told[index][number]) for index in indexes])
    return table


def is_position(works, sender, rooms, thing):
    """Whether thing is a position."""
    if not isinstance(thing, tuple) or len(thing) != 2:
        return False
    place, heaps = thing
    if not is_integer(place) or not 0 <= place < sender[0]:
        return False
    return is_amounts(works, heaps) and is_within(heaps, rooms)


def are_positions(works, sender, rooms, thing):
    """Whether thing is a dict from positions, the first one among them."""
    if not isinstance(thing, dict) or not all([is_position(works, sender, rooms, key) for key in thing]):
        return False
    return (0, no_heaps(works)) in thing


def _leads_to_key(works, sender, table, heaps, index, thing):
    """Whether thing is an arrow's index with deeds by which it leads from the heaps to a key."""
    if not isinstance(thing, tuple) or len(thing) != 2:
        return False
    if not is_integer(thing[0]) or thing[0] != index or not is_deeds(works, thing[1]):
        return False
    _, target, amounts, crew = sender[1][index]
    try:
        behind = after(works, added(heaps, amounts), crew, thing[1])
    except CannotBeDone:
        return False
    return (target, behind) in table


def is_table(works, sender, rooms, thing):
    """Whether thing is a TABLE."""
    # Made for what it raises alone.
    Moves(works, sender, rooms)
    if not are_positions(works, sender, rooms, thing):
        return False
    for (place, heaps), parts in thing.items():
        indexes = arrows_from(sender, place)
        if not isinstance(parts, tuple) or len(parts) != len(indexes):
            return False
        for index, part in zip(indexes, parts):
            if not _leads_to_key(works, sender, thing, heaps, index, part):
                return False
    return True


def table_play(works, sender, table, run):
    """The play of a run whose deeds a TABLE tells."""
    place, heaps = 0, no_heaps(works)
    play = []
    for index in run:
        _, target, amounts, crew = sender[1][index]
        deeds = dict(table[(place, heaps)])[index]
        play.append(deeds)
        place, heaps = target, after(works, added(heaps, amounts), crew, deeds)
    return play
