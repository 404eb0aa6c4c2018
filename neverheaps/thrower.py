"""A builder that throws away what cannot be worked off, and pays as little for it as can be."""

from neverheaps.bounds import rooms_by
from neverheaps.exact import dot, made_whole
from neverheaps.forms import is_amounts
from neverheaps.loss import loss_shares
from neverheaps.plans import given_to_arrows, is_plan_with
from neverheaps.rings import rings_of
from neverheaps.tracker import Late


def throwing_plan(works, sender, ring, costs):
    """A throwing plan of the ring that costs as little as can be."""
    thrown, shares = loss_shares(works, sender, ring, costs)
    times, counts = made_whole(thrown + shares)
    rows, free = given_to_arrows(works, sender, ring, times, counts[len(thrown):])
    return times, tuple(counts[:len(thrown)]), rows, free


def is_throwing_plan(works, sender, ring, thing):
    """Whether thing is a throwing plan of the ring."""
    if not isinstance(thing, tuple) or len(thing) != 4 or not is_amounts(works, thing[1]):
        return False
    times, thrown, rows, free = thing
    return is_plan_with(works, sender, ring, thrown, (times, rows, free))


def thrower_rooms(works, sender, costs):
    """The rooms that a Thrower keeps on all runs."""
    return rooms_by(works, sender, [(ring, throwing_plan(works, sender, ring, costs)) for ring in rings_of(sender)])


class Thrower:
    """A builder that is led arrow by arrow, keeps told rooms, and throws away no more than it has to."""

    def __init__(self, works, sender, costs):
        # Called for what it raises alone.
        rings_of(sender)
        self._works = works
        self._sender = sender
        self._costs = costs
        self._late = Late(works, sender)
        self._paid = 0

    def beat(self, index):
        """Go on by this arrow; the deeds of the beat, and what is thrown away behind them."""
        ring = self._late.unplanned(index)
        if ring is not None:
            self._late.plan(ring, throwing_plan(self._works, self._sender, ring, self._costs))
        deeds, thrown = self._late.beat(index)
        self._paid += dot(thrown, self._costs)
        return deeds, thrown

    def heaps(self):
        """The heaps behind the last beat."""
        return self._late.heaps()

    def stands_at(self):
        """The place behind the last beat."""
        return self._late.stands_at()

    def log(self):
        """The indexes of the arrows of all beats."""
        return self._late.log()

    def paid(self):
        """What all that was thrown away costs."""
        return self._paid

    def twin(self):
        """An independent Thrower in the same state."""
        other = Thrower(self._works, self._sender, self._costs)
        other._late = self._late.twin()
        other._paid = self._paid
        return other
