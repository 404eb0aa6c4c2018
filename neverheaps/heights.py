"""Greatest mean gains of rings, and heights that prove that none is greater."""

from neverheaps.exact import is_less, lowest_terms
from neverheaps.forms import is_integer
from neverheaps.rings import come_to, gain_of, turned


def _gains(sender, tariff):
    """The gain of each arrow."""
    return [gain_of(sender, tariff, (index,)) for index in range(len(sender[1]))]


def _longer(sender, gains, sums):
    """From the greatest sums of gains up to each place, those that are an arrow longer."""
    found = {}
    for (source, target, _, _), gain in zip(sender[1], gains):
        if source in sums and (target not in found or found[target] < sums[source] + gain):
            found[target] = sums[source] + gain
    return found


def greatest_sums(sender, gains, most):
    """For each number up to most the dict of the greatest sums of gains of so many arrows on end, by the last place."""
    rows = [{place: 0 for place in come_to(sender)}]
    for _ in range(most):
        rows.append(_longer(sender, gains, rows[-1]))
    return rows


def _least_mean(rows, place):
    """The least mean gain by which the longest runs to a place, that end the rows, are above shorter ones."""
    found = None
    for length, sums in enumerate(rows[:-1]):
        if place in sums:
            mean = lowest_terms(rows[-1][place] - sums[place], len(rows) - 1 - length)
            if found is None or is_less(mean, found):
                found = mean
    return found


def greatest_mean(sender, tariff):
    """The greatest mean gain of a ring; None if there is no ring."""
    # This is Karp's theorem: with rows of all lengths up to the number of places,
    # the greatest of these least means is the greatest mean gain.
    gains = _gains(sender, tariff)
    rows = [{0: 0}]
    for _ in come_to(sender):
        rows.append(_longer(sender, gains, rows[-1]))
    found = None
    for place in rows[-1]:
        mean = _least_mean(rows, place)
        if found is None or is_less(found, mean):
            found = mean
    return found


def _steps(sender, tariff, mean):
    """For each arrow by how much its target has to be above its source: den * gain - num."""
    num, den = mean
    return [den * gain - num for gain in _gains(sender, tariff)]


def heights_above(sender, tariff, mean):
    """The least heights, 0 at the place 0 or above, that show that no ring has a greater mean gain."""
    steps = _steps(sender, tariff, mean)
    found = {0: 0}
    grows = True
    while grows:
        grows = False
        for (source, target, _, _), step in zip(sender[1], steps):
            if source in found and (target not in found or found[target] < found[source] + step):
                found[target] = found[source] + step
                grows = True
    return tuple([found.get(place) for place in range(sender[0])])


def mean_heights(sender, tariff):
    """For each place the greatest value of a run that ends there; None if it is not come to."""
    mean = greatest_mean(sender, tariff)
    return heights_above(sender, tariff, (0, 1) if mean is None else mean)


def _leading_on(sender, indexes):
    """The dict from sources to arrows of those with these indexes that lead on and on."""
    left = indexes
    many = len(left) + 1
    while len(left) < many:
        many = len(left)
        sources = {sender[1][index][0]: True for index in left}
        left = [index for index in left if sender[1][index][1] in sources]
    return {sender[1][index][0]: index for index in left}


def mean_ring(sender, tariff):
    """A ring that has the greatest mean gain; None if there is no ring."""
    mean = greatest_mean(sender, tariff)
    if mean is None:
        return None
    heights = heights_above(sender, tariff, mean)
    tight = []
    for index, step in enumerate(_steps(sender, tariff, mean)):
        source, target, _, _ = sender[1][index]
        if heights[source] is not None and heights[target] == heights[source] + step:
            tight.append(index)
    # All rings of tight arrows have this mean, and only those.
    arrows = _leading_on(sender, tight)
    path, at = [], min(arrows)
    while at not in path:
        path.append(at)
        at = sender[1][arrows[at]][1]
    return turned(sender, tuple([arrows[place] for place in path[path.index(at):]]))


def are_heights(sender, tariff, fraction, thing):
    """Whether thing has heights that show that no ring has a greater mean gain than the fraction."""
    if not isinstance(thing, tuple) or len(thing) != sender[0]:
        return False
    come = {place: True for place in come_to(sender)}
    for place, height in enumerate(thing):
        fits = is_integer(height) if place in come else height is None
        if not fits:
            return False
    for (source, target, _, _), step in zip(sender[1], _steps(sender, tariff, fraction)):
        if source in come and thing[target] < thing[source] + step:
            return False
    return True
