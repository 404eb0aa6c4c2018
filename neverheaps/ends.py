"""What deeds can leave of heaps: of some, and of all within rooms at once."""

from neverheaps.errors import TooMany
from neverheaps.exact import dot
from neverheaps.play import added, behind_deed

MOST_COUPLES = 5000


def deeds_to(works, heaps, crew):
    """The dict from all couples of an end and a rest of the crew to deeds that lead there.

    The keys stand in the order of their deeds: shorter ones first, then lesser ones.
    """
    found = {(heaps, crew): ()}
    queue = [(heaps, crew)]
    at = 0
    while at < len(queue):
        lying, rest = queue[at]
        deeds = found[queue[at]]
        for index in range(len(works[2])):
            couple = behind_deed(works, lying, rest, index)
            if couple is not None and couple not in found:
                if len(queue) == MOST_COUPLES:
                    raise TooMany(MOST_COUPLES)
                found[couple] = deeds + (index,)
                queue.append(couple)
        at += 1
    return found


def ends_of(works, heaps, crew):
    """The dict from all ends to the shortest deeds that lead there, of these the least."""
    found = {}
    for (end, _), deeds in deeds_to(works, heaps, crew).items():
        if end not in found:
            found[end] = deeds
    return {end: found[end] for end in sorted(found)}


def _packed(row, width):
    """The items of a row as one number, each in so many bits."""
    number = 0
    for item in row:
        number = (number << width) + item
    return number


def _has_within(lower, room, guard):
    """Whether some of the lower packed rows is within the room."""
    for packed in lower:
        if ((room - packed) & guard) == guard:
            return True
    return False


def _low_rows(rows):
    """The ascending list of those rows within which no other row is."""
    # There may be thousands, so rows are compared as packed numbers: a bit ahead of
    # each item of the room is lost exactly if something greater is taken off there.
    width = 1 + max([item.bit_length() for row in rows for item in row])
    found, lower = [], []
    for row in sorted(rows):
        packed = _packed(row, width)
        guard = _packed([1 << (width - 1)] * len(row), width)
        if not _has_within(lower, packed + guard, guard):
            found.append(row)
            lower.append(packed)
    return found


def low_ends(works, heaps, crew):
    """The ascending list of those ends within which no other end is."""
    ends = {end: True for end, _ in deeds_to(works, heaps, crew)}
    return _low_rows(list(ends))


def all_within(rooms):
    """The ascending list of all heaps within rooms."""
    found = [()]
    for room in rooms:
        found = [heaps + (item,) for heaps in found for item in range(room + 1)]
    return found


def numbers_in(lot):
    """The ascending list of the numbers of the bits of a lot."""
    found = []
    left = lot
    while left > 0:
        last = left & -left
        found.append(last.bit_length() - 1)
        left -= last
    return found


def shifted(lot, by):
    """The lot in which each number is greater by so much."""
    return lot << by if by >= 0 else lot >> -by


class Box:
    """The heaps within rooms, numbered in their order from 0 on: a LOT of them is an integer that has their bits."""

    def __init__(self, rooms):
        self.rooms = rooms
        self.members = all_within(rooms)
        self.full = (1 << len(self.members)) - 1
        steps = [1] * len(rooms)
        for kind in reversed(range(len(rooms) - 1)):
            steps[kind] = steps[kind + 1] * (rooms[kind + 1] + 1)
        self._steps = steps
        # For each kind and each number of its things the lot of the heaps that have so many, or more.
        self._lots = [self._lots_of(kind) for kind in range(len(rooms))]

    def _lots_of(self, kind):
        """For each number of things of a kind, and one too great, the lot of the heaps with so many or more."""
        lots = [0] * (self.rooms[kind] + 2)
        for number, heaps in enumerate(self.members):
            lots[heaps[kind]] += 1 << number
        for many in reversed(range(len(lots) - 1)):
            lots[many] += lots[many + 1]
        return lots

    def number(self, amounts):
        """The number of heaps; of differences of heaps that of their numbers."""
        return dot(self._steps, amounts)

    def from_many(self, kind, many):
        """The lot of the heaps that have so many of the kind, or more."""
        return self._lots[kind][max(0, min(many, len(self._lots[kind]) - 1))]

    def above(self, least):
        """The lot of the heaps that have at least these amounts."""
        lot = self.full
        for kind, many in enumerate(least):
            lot &= self.from_many(kind, many)
        return lot

    def below(self, most):
        """The lot of the heaps that have at most these amounts."""
        lot = self.full
        for kind, many in enumerate(most):
            lot &= ~self.from_many(kind, many + 1)
        return lot


class Beat:
    """What deeds of a beat can make of heaps, for all heaps in a box at once.

    What lies and the rest of the crew are told as if the heaps had been as great
    as the rooms ahead of the beat. Lesser ones allow no more, and all that lies is
    less by as much: so for each couple that is told there is the lot of the heaps
    ahead from which deeds lead to it.
    """

    def __init__(self, works, box, amounts, crew):
        self._works = works
        self._box = box
        self._start = (added(box.rooms, amounts), crew)
        # Each deed lowers what lies, in the order of Python: so what leads to a couple stands ahead of it.
        self._couples = sorted(list(deeds_to(works, self._start[0], crew)), reverse=True)

    def _risen(self, lying):
        """By how much what lies is greater than the heaps ahead."""
        return tuple([many - room for many, room in zip(lying, self._box.rooms)])

    def _fitting(self, risen):
        """The lot of the heaps ahead that are within rooms when they have risen."""
        return self._box.below(tuple([room - by for room, by in zip(self._box.rooms, risen)]))

    def _deeds_from(self, couple):
        """The deeds that can follow: the recipe, the couple behind it, and the lot of heaps ahead that allow it."""
        lying, rest = couple
        found = []
        for index, (takes, _, _) in enumerate(self._works[2]):
            behind = behind_deed(self._works, lying, rest, index)
            if behind is not None:
                lot = self._box.full
                for kind, taken in enumerate(takes):
                    if taken > 0:
                        lot &= self._box.from_many(kind, self._box.rooms[kind] - lying[kind] + taken)
                found.append((index, behind, lot))
        return found

    def leads(self):
        """The dict from differences of numbers to the lots of the heaps from which deeds lead on by as much."""
        lots = {self._start: self._box.full}
        found = {}
        for couple in self._couples:
            lot = lots[couple]
            for _, behind, allowed in self._deeds_from(couple):
                lots[behind] = lots.get(behind, 0) | (lot & allowed)
            risen = self._risen(couple[0])
            fitting = lot & self._fitting(risen)
            if fitting > 0:
                by = self._box.number(risen)
                found[by] = found.get(by, 0) | fitting
        return found

    def _ending(self, couple, lot):
        """The lot of the heaps ahead that are in a lot if no deed follows."""
        risen = self._risen(couple[0])
        return shifted(lot, -self._box.number(risen)) & self._fitting(risen)

    def _leading(self, lot):
        """For each couple the lot of the heaps ahead from which, behind it, deeds lead to a lot."""
        lots = {}
        for couple in reversed(self._couples):
            leading = self._ending(couple, lot)
            for _, behind, allowed in self._deeds_from(couple):
                leading |= allowed & lots[behind]
            lots[couple] = leading
        return lots

    def deeds_into(self, heaps, lot):
        """For each number in a lot of heaps, from which deeds lead to the other lot, such deeds."""
        leading = self._leading(lot)
        found = {}
        ways = [(self._start, heaps, ())]
        while ways:
            couple, left, deeds = ways.pop()
            for number in numbers_in(left & self._ending(couple, lot)):
                found[number] = deeds
            left &= ~self._ending(couple, lot)
            for index, behind, allowed in self._deeds_from(couple):
                part = left & allowed & leading[behind]
                left &= ~part
                if part > 0:
                    ways.append((behind, part, deeds + (index,)))
        return found
