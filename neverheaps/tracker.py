"""A builder that does late what hands would have done: it never looks ahead, and its heaps stay small."""

from neverheaps.late import Late
from neverheaps.plans import held_rings, plan_of
from neverheaps.play import no_heaps


class Tracker:
    """A builder that is led arrow by arrow, and keeps the told rooms."""

    def __init__(self, works, sender):
        held_rings(works, sender)
        self._works = works
        self._sender = sender
        self._late = Late(works, sender)

    def beat(self, index):
        """Go on by this arrow; the deeds of the beat."""
        ring = self._late.unplanned(index)
        if ring is not None:
            times, rows, free = plan_of(self._works, self._sender, ring)
            self._late.plan(ring, (times, no_heaps(self._works), rows, free))
        deeds, _ = self._late.beat(index)
        return deeds

    def heaps(self):
        """The heaps behind the last beat."""
        return self._late.heaps()

    def stands_at(self):
        """The place behind the last beat."""
        return self._late.stands_at()

    def log(self):
        """The indexes of the arrows of all beats."""
        return self._late.log()

    def twin(self):
        """An independent Tracker in the same state."""
        other = Tracker(self._works, self._sender)
        other._late = self._late.twin()
        return other
