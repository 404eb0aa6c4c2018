"""Deeds that are done by an order of the recipes."""

from neverheaps.errors import TooMany
from neverheaps.forms import is_deeds
from neverheaps.play import added, no_heaps

MOST_DEEDS = 1000


def is_order(works, thing):
    """Whether thing is an order: a tuple of all indexes of recipes, each once."""
    if not is_deeds(works, thing):
        return False
    return sorted(thing) == list(range(len(works[2])))


class Worker:
    """Somebody who does the deeds of each beat by an order, and nothing else."""

    def __init__(self, works, order):
        self._order = order
        recipes = [works[2][index] for index in order]
        # For each recipe, in order: the kinds that it takes with how many, by how much it changes each kind, and
        # the place of its hand, or None.
        self._takes = [[(kind, taken) for kind, taken in enumerate(takes) if taken > 0] for takes, _, _ in recipes]
        self._changes = [tuple([put - taken for taken, put in zip(takes, puts)]) for takes, puts, _ in recipes]
        self._hands = [None if hand is None else works[1].index(hand) for _, _, hand in recipes]
        self._feeds = [self._is_feeding(at, puts) for at, (_, puts, _) in enumerate(recipes)]
        # For each recipe, in order: those further behind that never had to wait for it, up to now.
        self._behind = [self._minding(at, recipes) for at in range(len(order))]
        self._waiting = []

    def _is_feeding(self, at, puts):
        """Whether something is put that a recipe further ahead in the order takes."""
        return any([puts[kind] > 0 for ahead in self._takes[:at] for kind, _ in ahead])

    def _minding(self, at, recipes):
        """The recipes further behind, but those of which it is all the same which one is done ahead of the other."""
        kinds = [kind for kind, _ in self._takes[at]]
        taken = [kind for row in self._takes for kind, _ in row]
        feeds = [any([puts[kind] > 0 for kind in taken]) for _, puts, _ in recipes]
        found = []
        for further in range(at + 1, len(recipes)):
            same_kind = any([kind in kinds for kind, _ in self._takes[further]])
            same_hand = self._hands[at] is not None and self._hands[at] == self._hands[further]
            if same_kind or same_hand or feeds[at] or feeds[further]:
                found.append(further)
        return found

    def _times(self, at, heaps, crew):
        """How often the recipe can be done, one time behind the other."""
        times = min([heaps[kind] // taken for kind, taken in self._takes[at]])
        if self._hands[at] is not None:
            times = min(times, crew[self._hands[at]])
        # What it puts may be wanted for a recipe further ahead, whose turn it is then.
        return min(times, 1) if self._feeds[at] else times

    def _note_waiting(self, at, times, heaps, crew):
        """Note which recipes further behind perhaps could have been done while this one was done so often."""
        most = [max(lying, lying + times * change) for lying, change in zip(heaps, self._changes[at])]
        left = []
        for further in self._behind[at]:
            if self._times(further, most, crew) > 0:
                self._waiting.append((self._order[at], self._order[further]))
            else:
                left.append(further)
        self._behind[at] = left

    def waiting(self):
        """The couples of recipes (one, other) where the other one perhaps had to wait for the one, up to now.

        By each order in which the ones stand ahead of the others the deeds of all these beats are the same.
        """
        return list(self._waiting)

    def done(self, heaps, crew):
        """The deeds of a beat, a list of tuples (index, times), and the heaps behind them."""
        lying, rest = heaps, list(crew)
        deeds, many, at = [], 0, 0
        while at < len(self._order):
            times = self._times(at, lying, rest)
            if times == 0:
                at += 1
            else:
                many += times
                if many > MOST_DEEDS:
                    raise TooMany(MOST_DEEDS)
                self._note_waiting(at, times, lying, rest)
                deeds.append((self._order[at], times))
                lying = tuple([one + times * change for one, change in zip(lying, self._changes[at])])
                if self._hands[at] is not None:
                    rest[self._hands[at]] -= times
                # Nothing ahead can be done now, but where it was fed.
                at = 0 if self._feeds[at] else at + 1
        return deeds, lying


def _one_by_one(deeds):
    """The deeds, each index as often as it is done."""
    found = []
    for index, times in deeds:
        found += [index] * times
    return tuple(found)


def deeds_by(works, order, heaps, crew):
    """The deeds by the order: again and again the first recipe of it that can be done."""
    deeds, _ = Worker(works, order).done(heaps, crew)
    return _one_by_one(deeds)


def order_play(works, sender, order, run):
    """The play of a run whose deeds are by the order."""
    worker = Worker(works, order)
    heaps = no_heaps(works)
    play = []
    for index in run:
        _, _, amounts, crew = sender[1][index]
        deeds, heaps = worker.done(added(heaps, amounts), crew)
        play.append(_one_by_one(deeds))
    return play
