"""Heaps that somebody keeps, or does not, who does the deeds of each beat by an order."""

from itertools import permutations

from neverheaps.errors import Piles, TooMany
from neverheaps.orders import Worker
from neverheaps.play import added, is_within, no_heaps
from neverheaps.tables import arrows_from

MOST_POSITIONS = 20000
MOST_ORDERED = 6


class Walk:
    """All runs by an order, shorter ones first, then lesser ones, up to the first that breaks rooms.

    Each position is walked on from once, behind the first run that leads there.
    """

    def __init__(self, works, sender, order, rooms):
        many = sender[0]
        for room in rooms:
            many *= room + 1
        if many > MOST_POSITIONS:
            raise TooMany(MOST_POSITIONS)
        self._sender = sender
        self._rooms = rooms
        self._worker = Worker(works, order)
        self._arrows = [arrows_from(sender, place) for place in range(sender[0])]
        self.positions = [(0, no_heaps(works))]
        # For each position the one ahead of it and the arrow; runs would be long to keep.
        self._steps = [None]
        self._known = {self.positions[0]: True}
        self.run = None
        at = 0
        while at < len(self.positions) and self.run is None:
            self._go_on(at)
            at += 1

    def _run_to(self, at):
        """The run that leads to a position."""
        run, step = [], self._steps[at]
        while step is not None:
            run.append(step[1])
            step = self._steps[step[0]]
        run.reverse()
        return tuple(run)

    def _go_on(self, at):
        """Walk on from a position by all arrows, or up to the first one that breaks the rooms."""
        place, heaps = self.positions[at]
        for index in self._arrows[place]:
            _, target, amounts, crew = self._sender[1][index]
            _, lying = self._worker.done(added(heaps, amounts), crew)
            if not is_within(lying, self._rooms):
                self.run = self._run_to(at) + (index,)
                return
            if (target, lying) not in self._known:
                self._known[(target, lying)] = True
                self.positions.append((target, lying))
                self._steps.append((at, index))

    def waiting(self):
        """The couples of recipes of which, on this walk, the other one perhaps had to wait for the one."""
        return self._worker.waiting()


def pile_run(works, sender, order, rooms):
    """The shortest, least run behind which some heap is above its room; None if the order keeps the rooms."""
    return Walk(works, sender, order, rooms).run


def order_keeps(works, sender, order, rooms):
    """Whether the play by the order keeps the rooms on all runs."""
    return pile_run(works, sender, order, rooms) is None


def order_positions(works, sender, order, rooms):
    """The ascending list of all positions to which the order leads."""
    walk = Walk(works, sender, order, rooms)
    if walk.run is not None:
        raise Piles(walk.run)
    return sorted(walk.positions)


def order_rooms(works, sender, order, most):
    """The rooms that the order needs; None if some heap is greater than most."""
    walk = Walk(works, sender, order, (most,) * len(works[0]))
    if walk.run is not None:
        return None
    needed = no_heaps(works)
    for _, heaps in walk.positions:
        needed = tuple([max(one, other) for one, other in zip(needed, heaps)])
    return needed


def _stands_so(order, couples):
    """Whether in the order the one recipe of each couple stands ahead of the other one."""
    return all([order.index(one) < order.index(other) for one, other in couples])


def good_orders(works, sender, rooms):
    """The ascending list of all orders that keep the rooms."""
    many = len(works[2])
    if many > MOST_ORDERED:
        raise TooMany(MOST_ORDERED)
    found, walked = [], []
    for order in permutations(range(many)):
        # Many orders walk alike, so one walk tells of all of them.
        told = [is_good for couples, is_good in walked if _stands_so(order, couples)]
        if not told:
            walk = Walk(works, sender, order, rooms)
            told = [walk.run is None]
            walked.append((walk.waiting(), told[0]))
        if told[0]:
            found.append(order)
    return found
