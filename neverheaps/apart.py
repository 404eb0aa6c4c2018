"""Works that are apart: whatever is done at once takes nothing from anything else."""

from neverheaps.errors import NotApart, TooMany
from neverheaps.orders import MOST_DEEDS
from neverheaps.play import added, after, no_heaps


def _put_something(works):
    """The ascending list of the indexes of recipes that put something."""
    return [index for index, (_, puts, _) in enumerate(works[2]) if puts != no_heaps(works)]


def _touch(one, other):
    """Whether two recipes have unlike takes, and take something of one kind or want one hand."""
    if one[0] == other[0]:
        return False
    if one[2] is not None and one[2] == other[2]:
        return True
    return any([left > 0 and right > 0 for left, right in zip(one[0], other[0])])


def touching_recipes(works):
    """The least tuple of the indexes of two recipes that touch; None if there is none."""
    for index, one in enumerate(works[2]):
        for further, other in enumerate(works[2]):
            if index < further and _touch(one, other):
                return index, further
    return None


def is_apart(works):
    """Whether no recipe puts anything, and no two recipes touch."""
    return not _put_something(works) and touching_recipes(works) is None


def _check_apart(works):
    """Refuse a works that is not apart."""
    putting, touching = _put_something(works), touching_recipes(works)
    if putting:
        raise NotApart(putting[0])
    if touching is not None:
        raise NotApart(touching[0])


def lots_of(works):
    """The ascending list of the tuples (takes, indexes): different takes, and the recipes that have them."""
    _check_apart(works)
    lots = {}
    for index, (takes, _, _) in enumerate(works[2]):
        lots[takes] = lots.get(takes, ()) + (index,)
    return [(takes, lots[takes]) for takes in sorted(lots)]


def _lot_counts(works, takes, indexes, heaps, crew):
    """How often each recipe of a lot is done, a dict."""
    left = min([many // taken for many, taken in zip(heaps, takes) if taken > 0])
    hands = {hand: many for hand, many in zip(works[1], crew)}
    counts = {}
    for index in indexes:
        hand = works[2][index][2]
        counts[index] = left if hand is None else min(left, hands[hand])
        left -= counts[index]
        if hand is not None:
            hands[hand] -= counts[index]
    return counts


def at_once(works, heaps, crew):
    """The deeds, ascending, that do each lot as often as its things and hands let."""
    counts = {}
    for takes, indexes in lots_of(works):
        counts.update(_lot_counts(works, takes, indexes, heaps, crew))
    if sum(list(counts.values())) > MOST_DEEDS:
        raise TooMany(MOST_DEEDS)
    deeds = []
    for index in sorted(counts):
        deeds += [index] * counts[index]
    return tuple(deeds)


def _play_at_once(works, sender, run):
    """The play that does all at once in each beat, and the heaps behind it."""
    _check_apart(works)
    heaps = no_heaps(works)
    play = []
    for index in run:
        _, _, amounts, crew = sender[1][index]
        lying = added(heaps, amounts)
        deeds = at_once(works, lying, crew)
        play.append(deeds)
        heaps = after(works, lying, crew, deeds)
    return play, heaps


def at_once_play(works, sender, run):
    """The play of a run that does all at once in each beat."""
    play, _ = _play_at_once(works, sender, run)
    return play


def least_heaps(works, sender, run):
    """The heaps behind the play of a run that does all at once in each beat."""
    _, heaps = _play_at_once(works, sender, run)
    return heaps
