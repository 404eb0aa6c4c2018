"""Senders side by side, each of which goes on by one arrow at each beat."""

from neverheaps.errors import TooMany
from neverheaps.exact import lowest_terms, negated, unit_row
from neverheaps.forms import is_fraction, is_tariff
from neverheaps.heights import greatest_mean, mean_ring
from neverheaps.play import added
from neverheaps.tariffs import book_of, is_fair
from neverheaps.works import hand_place, kind_place

MOST_PLACES = 200
MOST_ARROWS = 2000


def _number(parts, sizes):
    """The number of a tuple, one item below each size, among all such tuples, ascending."""
    number = 0
    for part, size in zip(parts, sizes):
        number = number * size + part
    return number


def _parts(number, sizes):
    """The tuple with this number."""
    parts = ()
    left = number
    for size in reversed(sizes):
        left, part = divmod(left, size)
        parts = (part,) + parts
    return parts


def _place_sizes(senders):
    """How many places each sender has."""
    return [sender[0] for sender in senders]


def _arrow_sizes(senders):
    """How many arrows each sender has."""
    return [len(sender[1]) for sender in senders]


def _check_many(sizes, most):
    """Refuse more than so many tuples."""
    many = 1
    for size in sizes:
        many *= size
    if many > most:
        raise TooMany(most)


def _joined(arrows, sizes):
    """The arrow that several arrows, one of each sender, are together."""
    source = _number([arrow[0] for arrow in arrows], sizes)
    target = _number([arrow[1] for arrow in arrows], sizes)
    amounts, crew = arrows[0][2], arrows[0][3]
    for _, _, brought, hands in arrows[1:]:
        amounts, crew = added(amounts, brought), added(crew, hands)
    return source, target, amounts, crew


def beside(senders):
    """The sender that several senders are together, side by side."""
    sizes = _place_sizes(senders)
    _check_many(sizes, MOST_PLACES)
    _check_many(_arrow_sizes(senders), MOST_ARROWS)
    rows = [()]
    for _, arrows in senders:
        rows = [row + (arrow,) for row in rows for arrow in arrows]
    places = 1
    for size in sizes:
        places *= size
    return places, tuple([_joined(row, sizes) for row in rows])


def places_at(senders, place):
    """The tuple of places, one of each sender, that has this number."""
    return _parts(place, _place_sizes(senders))


def arrows_at(senders, index):
    """The tuple of the indexes of arrows, one of each sender, behind the arrow with this index."""
    return _parts(index, _arrow_sizes(senders))


def _means(bringer, breakers, tariff):
    """The greatest mean gains by a tariff, that of the bringer first; None if some sender has no ring."""
    means = [greatest_mean(sender, tariff) for sender in (bringer,) + breakers]
    if None in means:
        return None
    return tuple(means)


def _is_above_zero(means):
    """Whether the sum of some FRACTIONS is above 0."""
    num, den = 0, 1
    for more, parts in means:
        num, den = num * parts + more * den, den * parts
    return num > 0


def tariff_beside(works, bringer, breakers):
    """A TARIFF AGAINST the bringer and the breakers; None if the works holds them side by side."""
    # The greatest mean gain by a sum of tariffs is at most the sum of theirs: so a book is enough.
    for tariff in book_of(works):
        means = _means(bringer, breakers, tariff)
        if means is not None and _is_above_zero(means):
            return tariff, means
    return None


def holds_apart(works, bringer, breakers):
    """Whether the works holds the bringer and the breakers side by side."""
    return tariff_beside(works, bringer, breakers) is None


def is_tariff_beside(works, bringer, breakers, thing):
    """Whether thing is a TARIFF AGAINST the bringer and the breakers."""
    if not isinstance(thing, tuple) or len(thing) != 2:
        return False
    tariff, means = thing
    if not is_tariff(works, tariff) or not is_fair(works, tariff):
        return False
    if not isinstance(means, tuple) or not all([is_fraction(mean) for mean in means]):
        return False
    return means == _means(bringer, breakers, tariff) and _is_above_zero(means)


def greatest_rate(works, bringer, name):
    """The greatest mean number of things of a kind in a beat, and a ring that has it; None if there is no ring."""
    prices = unit_row(len(works[0]), kind_place(works, name))
    tariff = (prices, (0,) * len(works[1]))
    mean = greatest_mean(bringer, tariff)
    if mean is None:
        return None
    return mean, mean_ring(bringer, tariff)


def least_share(works, breaker, name):
    """The least mean number of a hand in a beat, and a ring that has it; None if there is no ring."""
    wages = unit_row(len(works[1]), hand_place(works, name))
    tariff = ((0,) * len(works[0]), wages)
    mean = greatest_mean(breaker, tariff)
    if mean is None:
        return None
    return lowest_terms(-mean[0], mean[1]), mean_ring(breaker, tariff)
