"""Rooms that are told ahead: those that a Tracker keeps on all runs."""

from neverheaps.play import added, brought_by, no_heaps
from neverheaps.plans import plan_of, plans_of, total_of
from neverheaps.rings import sum_of
from neverheaps.works import levels


def _load(works, sender, ring, plan):
    """What a batch of rounds of the ring brings, and what all deeds of its plan put."""
    brought, _ = sum_of(works, sender, ring)
    load = tuple([plan[0] * many for many in brought])
    for count, recipe in zip(total_of(plan), works[2]):
        load = added(load, [count * many for many in recipe[1]])
    return load


def load_of(works, sender, ring):
    """The load of a ring."""
    return _load(works, sender, ring, plan_of(works, sender, ring))


def _batches(works, sender, times):
    """N, for rings with these times."""
    hands = sum([sum(crew) for _, _, _, crew in sender[1]])
    found = 0
    for _ in range(1 + max(levels(works), default=0)):
        found = hands * (sum(times) + max(times, default=0) * found)
    return found


def batches_most(works, sender):
    """N: how many batches there are at most at a time that are not done."""
    return _batches(works, sender, [plan[0] for _, plan in plans_of(works, sender)])


def rooms_by(works, sender, plans):
    """The rooms that are told by the list of all rings, each with its plan or its throwing plan."""
    times = [plan[0] for _, plan in plans]
    greatest = no_heaps(works)
    for ring, plan in plans:
        load = _load(works, sender, ring, plan)
        greatest = tuple([max(one, other) for one, other in zip(greatest, load)])
    many = sum(times) + _batches(works, sender, times)
    once, _ = brought_by(works, sender, list(range(len(sender[1]))))
    return added(once, [many * item for item in greatest])


def rooms_told(works, sender):
    """The rooms that are told for the sender."""
    return rooms_by(works, sender, plans_of(works, sender))
