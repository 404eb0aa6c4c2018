"""Rooms, tables, trees and what is beside them, told slowly and by the words of the document."""

import itertools

from neverheaps.ends import ends_of
from neverheaps.play import is_within


def box(rooms):
    """All heaps within rooms."""
    return list(itertools.product(*[range(room + 1) for room in rooms]))


def positions(sender, rooms):
    return [(place, heaps) for place in range(sender[0]) for heaps in box(rooms)]


def steps(sender, place):
    return [index for index, arrow in enumerate(sender[1]) if arrow[0] == place]


def led(works, sender, rooms, position, index):
    """The positions to which an arrow leads, each with deeds."""
    _, target, amounts, crew = sender[1][index]
    lying = tuple(one + other for one, other in zip(position[1], amounts))
    return {(target, end): deeds for end, deeds in ends_of(works, lying, crew).items() if is_within(end, rooms)}


def all_led(works, sender, rooms):
    """The dict from couples of a position and an arrow from its place to the positions that it leads to."""
    return {(position, index): set(led(works, sender, rooms, position, index))
            for position in positions(sender, rooms) for index in steps(sender, position[0])}


def lost(works, sender, rooms):
    """The dict from the positions that are not safe to the number of beats by which some heap is above its room."""
    ways = all_led(works, sender, rooms)
    found, number = {}, 0
    while True:
        number += 1
        new = [position for position in positions(sender, rooms) if position not in found
               and any(ways[position, index] <= set(found) for index in steps(sender, position[0]))]
        if not new:
            return found
        found.update(dict.fromkeys(new, number))


def safe(works, sender, rooms):
    found = lost(works, sender, rooms)
    return [position for position in positions(sender, rooms) if position not in found]


def tree(works, sender, rooms):
    """The tree with the least numbers and arrows, whether rooms are enough or not."""
    ways, found = all_led(works, sender, rooms), lost(works, sender, rooms)
    told = {}
    for position, number in found.items():
        fitting = [index for index in steps(sender, position[0])
                   if all(found.get(behind, number) < number for behind in ways[position, index])]
        told[position] = (min(fitting), number)
    return told


def is_tree(works, sender, rooms, thing):
    """Whether a dict from positions to tuples of two integers is a tree."""
    if (0, (0,) * len(rooms)) not in thing or not set(thing) <= set(positions(sender, rooms)):
        return False
    for (place, heaps), (index, number) in thing.items():
        if index not in steps(sender, place) or number < 1:
            return False
        for behind in led(works, sender, rooms, (place, heaps), index):
            if behind not in thing or thing[behind][1] >= number:
                return False
    return True


def heaps_in(works, sender, rooms, run):
    """The lists of heaps to which plays of a run lead, one beat behind the other."""
    lists = [[(0,) * len(rooms)]]
    for index in run:
        ends = {behind[1] for heaps in lists[-1] for behind in led(works, sender, rooms, (sender[1][index][0], heaps), index)}
        lists.append(sorted(ends))
    return lists


def runs(sender, longest):
    """All runs up to so many arrows, shorter ones first, then lesser ones."""
    found = [()]
    for run in found:
        if len(run) < longest:
            place = sender[1][run[-1]][1] if run else 0
            found += [run + (index,) for index in steps(sender, place)]
    return found


def couples(works, sender, rooms):
    """All couples of a place and a list of heaps that come about at the ends of runs, each with a run."""
    found = {(0, ((0,) * len(rooms),)): ()}
    queue = list(found)
    for couple in queue:
        for index in steps(sender, couple[0]):
            ends = {behind[1] for heaps in couple[1] for behind in led(works, sender, rooms, (couple[0], heaps), index)}
            behind = (sender[1][index][1], tuple(sorted(ends)))
            if behind not in found:
                found[behind] = found[couple] + (index,)
                queue.append(behind)
    return found


def least_of(lists):
    """The member that is nowhere greater than any other one, or None."""
    fitting = [heaps for heaps in lists if all(is_within(heaps, other) for other in lists)]
    return fitting[0] if fitting else None


def is_bad(works, sender, rooms, run):
    """Whether no builder is least behind a run, while one is ahead of its last arrow."""
    lists = heaps_in(works, sender, rooms, run)
    last = least_of(lists[-1])
    place, target = sender[1][run[-1]][:2]
    return last is None or (target, last) not in led(works, sender, rooms, (place, least_of(lists[-2])), run[-1])


def views(sender, place, many):
    """The tuples of so many arrows that may come next at a place, or fewer up to a place without arrows."""
    if many == 0 or not steps(sender, place):
        return [()]
    return [(index,) + rest for index in steps(sender, place) for rest in views(sender, sender[1][index][1], many - 1)]


def keeps_ahead(works, sender, rooms, many):
    """Whether there is a lot of tuples (position, arrows), each with deeds for each further arrow that lead into it."""
    ways = all_led(works, sender, rooms)
    left = {(position, view) for position in positions(sender, rooms) for view in views(sender, position[0], many)}
    shrinks = True
    while shrinks:
        kept = set()
        for position, view in left:
            known = {further for further in views(sender, position[0], many + 1) if further[:len(view)] == view}
            if all(not further or any((behind, further[1:]) in left for behind in ways[position, further[0]]) for further in known):
                kept.add((position, view))
        shrinks, left = len(kept) < len(left), kept
    return all(((0, (0,) * len(rooms)), view) in left for view in views(sender, 0, many))
