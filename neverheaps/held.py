"""Whether a works holds a sender, and why."""

from neverheaps.forms import is_ring, is_tariff
from neverheaps.heights import are_heights, greatest_mean, heights_above, mean_ring
from neverheaps.rings import gain_of
from neverheaps.tariffs import book_of, is_book, is_fair


def _gains_somewhere(sender, tariff):
    """Whether some ring gains by the tariff."""
    mean = greatest_mean(sender, tariff)
    return mean is not None and mean[0] > 0


def holds(works, sender):
    """Whether the works holds the sender."""
    for tariff in book_of(works):
        if _gains_somewhere(sender, tariff):
            return False
    return True


def why_not(works, sender):
    """A ring and a fair tariff by which it gains; None if the works holds the sender."""
    for tariff in book_of(works):
        if _gains_somewhere(sender, tariff):
            return mean_ring(sender, tariff), tariff
    return None


def why(works, sender):
    """A book, with heights for each tariff that show that no ring gains by it; None if the sender is not held."""
    found = []
    for tariff in book_of(works):
        if _gains_somewhere(sender, tariff):
            return None
        found.append((tariff, heights_above(sender, tariff, (0, 1))))
    return found


def _is_couple(thing):
    """Whether thing is a tuple of two."""
    return isinstance(thing, tuple) and len(thing) == 2


def is_why_not(works, sender, thing):
    """Whether thing is a ring and a fair tariff by which it gains."""
    if not _is_couple(thing) or not is_ring(sender, thing[0]) or not is_tariff(works, thing[1]):
        return False
    return is_fair(works, thing[1]) and gain_of(sender, thing[1], thing[0]) > 0


def is_why(works, sender, thing):
    """Whether thing is a book with heights that show that no ring gains by its tariffs."""
    if not isinstance(thing, list) or not all([_is_couple(item) for item in thing]):
        return False
    if not is_book(works, [tariff for tariff, _ in thing]):
        return False
    return all([are_heights(sender, tariff, (0, 1), heights) for tariff, heights in thing])
