"""What deeds can leave of heaps."""

from neverheaps.errors import TooMany
from neverheaps.play import behind_deed

MOST_COUPLES = 5000


def deeds_to(works, heaps, crew):
    """The dict from all couples of an end and a rest of the crew to deeds that lead there.

    The keys stand in the order of their deeds: shorter ones first, then lesser ones.
    """
    found = {(heaps, crew): ()}
    queue = [(heaps, crew)]
    at = 0
    while at < len(queue):
        lying, rest = queue[at]
        deeds = found[queue[at]]
        for index in range(len(works[2])):
            couple = behind_deed(works, lying, rest, index)
            if couple is not None and couple not in found:
                if len(queue) == MOST_COUPLES:
                    raise TooMany(MOST_COUPLES)
                found[couple] = deeds + (index,)
                queue.append(couple)
        at += 1
    return found


def ends_of(works, heaps, crew):
    """The dict from all ends to the shortest deeds that lead there, of these the least."""
    found = {}
    for (end, _), deeds in deeds_to(works, heaps, crew).items():
        if end not in found:
            found[end] = deeds
    return {end: found[end] for end in sorted(found)}


def _packed(row, width):
    """The items of a row as one number, each in so many bits."""
    number = 0
    for item in row:
        number = (number << width) + item
    return number


def _has_within(lower, room, guard):
    """Whether some of the lower packed rows is within the room."""
    for packed in lower:
        if ((room - packed) & guard) == guard:
            return True
    return False


def _low_rows(rows):
    """The ascending list of those rows within which no other row is."""
    # There may be thousands, so rows are compared as packed numbers: a bit ahead of
    # each item of the room is lost exactly if something greater is taken off there.
    width = 1 + max([item.bit_length() for row in rows for item in row])
    found, lower = [], []
    for row in sorted(rows):
        packed = _packed(row, width)
        guard = _packed([1 << (width - 1)] * len(row), width)
        if not _has_within(lower, packed + guard, guard):
            found.append(row)
            lower.append(packed)
    return found


def low_ends(works, heaps, crew):
    """The ascending list of those ends within which no other end is."""
    ends = {end: True for end, _ in deeds_to(works, heaps, crew)}
    return _low_rows(list(ends))
