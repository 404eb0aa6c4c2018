"""Deeds done one after the other, and plays of runs."""

from neverheaps.errors import CannotBeDone


def added(amounts, others):
    """The sums of two tuples of integers, item by item."""
    return tuple([one + other for one, other in zip(amounts, others)])


def behind_deed(works, heaps, crew, index):
    """The heaps and the rest of the crew behind one deed; None if it cannot be done."""
    takes, puts, hand = works[2][index]
    for lying, taken in zip(heaps, takes):
        if lying < taken:
            return None
    rest = crew
    if hand is not None:
        place = works[1].index(hand)
        if crew[place] == 0:
            return None
        rest = crew[:place] + (crew[place] - 1,) + crew[place + 1:]
    return tuple([lying - taken + put for lying, taken, put in zip(heaps, takes, puts)]), rest


def after(works, heaps, crew, deeds):
    """The heaps behind the deeds, done by the crew."""
    lying, rest = heaps, crew
    for index, deed in enumerate(deeds):
        couple = behind_deed(works, lying, rest, deed)
        if couple is None:
            raise CannotBeDone(index)
        lying, rest = couple
    return tuple(lying)


def can_do(works, heaps, crew, deeds):
    """Whether the deeds can be done by the crew."""
    try:
        after(works, heaps, crew, deeds)
    except CannotBeDone:
        return False
    return True


def no_heaps(works):
    """The amounts that are all 0."""
    return (0,) * len(works[0])


def played(works, sender, run, play):
    """The list of the heaps behind each beat of a play."""
    heaps = no_heaps(works)
    found = []
    for index, deeds in zip(run, play):
        _, _, amounts, crew = sender[1][index]
        heaps = after(works, added(heaps, amounts), crew, deeds)
        found.append(heaps)
    return found


def is_within(amounts, others):
    """Whether no item of amounts is greater than that of the others."""
    for one, other in zip(amounts, others):
        if one > other:
            return False
    return True


def keeps_rooms(works, sender, run, play, rooms):
    """Whether behind each beat of the play each heap is at most its room."""
    return all([is_within(heaps, rooms) for heaps in played(works, sender, run, play)])


def brought_by(works, sender, indexes):
    """The amounts and the crew that arrows bring together, each as often as its index stands there."""
    amounts, crew = no_heaps(works), (0,) * len(works[1])
    for index in indexes:
        _, _, brought, hands = sender[1][index]
        amounts, crew = added(amounts, brought), added(crew, hands)
    return amounts, crew


def sums_of(works, sender, run, play):
    """What the run brings, its crews together, and how often each recipe is done."""
    amounts, crew = brought_by(works, sender, run)
    counts = [0] * len(works[2])
    for deeds in play:
        for deed in deeds:
            counts[deed] += 1
    return amounts, crew, tuple(counts)
