"""Runs cut into rounds of rings."""

from neverheaps.rings import turned


def with_arrow(sender, path, index):
    """The path behind a further arrow, and the ring of which this arrow closes a round; None if of none."""
    longer = path + (index,)
    target = sender[1][index][1]
    for place, passed in enumerate(longer):
        if sender[1][passed][0] == target:
            return longer[:place], turned(sender, longer[place:])
    return longer, None


def cut(sender, run):
    """The rounds of a run, each with the index of its closing arrow in the run, and the path that is left."""
    path, rounds = (), []
    for at, index in enumerate(run):
        path, ring = with_arrow(sender, path, index)
        if ring is not None:
            rounds.append((at, ring))
    return rounds, path


def rounds_of(sender, run):
    """The ascending list of all rings with a round in the run, each with the number of its rounds."""
    numbers = {}
    for _, ring in cut(sender, run)[0]:
        numbers[ring] = numbers.get(ring, 0) + 1
    return [(ring, numbers[ring]) for ring in sorted(numbers)]
