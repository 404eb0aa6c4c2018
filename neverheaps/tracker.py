"""A builder that does late what hands would have done: it never looks ahead, and its heaps stay small."""

from neverheaps.cutting import with_arrow
from neverheaps.errors import NoArrow
from neverheaps.forms import is_integer
from neverheaps.plans import held_rings, plan_of
from neverheaps.play import added, after, no_heaps
from neverheaps.works import levels


class Written:
    """What batches of rounds have written down for the hands of arrows, and not done yet.

    A batch goes by a throwing plan (times, thrown, rows, free); where nothing is to be
    thrown away, thrown is all 0.
    """

    def __init__(self, works):
        self._works = works
        self._depths = levels(works)
        # For an arrow, a hand and a depth: the list of tuples (batch, recipe), in the order of writing.
        self._lists = {}
        # For each batch that is not done: its ring, its plan, the depth it is at, and how many deeds of it are left.
        self._batches = {}
        self._begun = 0
        # What the batches that were done since it was asked for have left to be thrown away.
        self._thrown = no_heaps(works)

    def twin(self):
        """An independent one in the same state."""
        other = Written(self._works)
        other._lists = {key: list(rows) for key, rows in self._lists.items()}
        other._batches = {batch: self._batches[batch] for batch in self._batches}
        other._begun = self._begun
        other._thrown = self._thrown
        return other

    def _taken(self, index, hand, many):
        """What so many hands of the arrow do now, taken out of what is written: least depths first."""
        taken = []
        for depth in range(1 + max(self._depths, default=0)):
            rows = self._lists.get((index, hand, depth), [])
            size = min(len(rows), many - len(taken))
            taken += rows[:size]
            del rows[:size]
        return taken

    def done_by(self, index, crew):
        """The deeds of the crew of the arrow that comes again, and of the batches that go on by them."""
        deeds, batches = [], {}
        for hand, many in zip(self._works[1], crew):
            for batch, recipe in self._taken(index, hand, many):
                ring, plan, depth, left = self._batches[batch]
                self._batches[batch] = (ring, plan, depth, left - 1)
                batches[batch] = True
                deeds.append(recipe)
        for batch in sorted(batches):
            deeds += self._gone_on(batch)
        return deeds

    def begin(self, ring, plan):
        """Begin a batch of the ring; the deeds that it does at once."""
        batch = self._begun
        self._begun += 1
        self._batches[batch] = (ring, plan, -1, 0)
        return self._gone_on(batch)

    def _gone_on(self, batch):
        """Write down deeds of greater depths while none is left; the deeds that want no hand, done at once."""
        ring, plan, depth, left = self._batches[batch]
        deeds = []
        while left == 0 and depth < max(self._depths, default=0):
            depth += 1
            left = self._write(batch, depth)
            deeds += self._at(depth, plan[3])
        if left == 0:
            self._thrown = added(self._thrown, plan[1])
            del self._batches[batch]
        else:
            self._batches[batch] = (ring, plan, depth, left)
        return deeds

    def _at(self, depth, row):
        """The recipes of a depth, each as often as the row says."""
        found = []
        for recipe, many in enumerate(row):
            if self._depths[recipe] == depth:
                found += [recipe] * many
        return found

    def _write(self, batch, depth):
        """Write down for each arrow what its hands would have done, of this depth; tell how many deeds."""
        ring, plan, _, _ = self._batches[batch]
        left = 0
        for index, row in zip(ring, plan[2]):
            for recipe in self._at(depth, row):
                key = (index, self._works[2][recipe][2], depth)
                self._lists.setdefault(key, []).append((batch, recipe))
                left += 1
        return left

    def thrown_away(self):
        """What the batches that are done throw away, told once."""
        thrown = self._thrown
        self._thrown = no_heaps(self._works)
        return thrown


class Late:
    """The state of a builder that is led arrow by arrow: its run, its heaps, and what it has written down."""

    def __init__(self, works, sender):
        self._works = works
        self._sender = sender
        # The throwing plans of the rings of which a round was closed.
        self._plans = {}
        # How many rounds of a ring are in no batch yet.
        self._rounds = {}
        self._written = Written(works)
        self._path = ()
        self._place = 0
        self._heaps = no_heaps(works)
        self._log = []

    def twin(self):
        """An independent one in the same state."""
        other = Late(self._works, self._sender)
        other._plans = {ring: self._plans[ring] for ring in self._plans}
        other._rounds = {ring: self._rounds[ring] for ring in self._rounds}
        other._written = self._written.twin()
        other._path = self._path
        other._place = self._place
        other._heaps = self._heaps
        other._log = list(self._log)
        return other

    def _may_come(self, index):
        """Whether this is the index of an arrow from the present place."""
        if not is_integer(index) or not 0 <= index < len(self._sender[1]):
            return False
        return self._sender[1][index][0] == self._place

    def unplanned(self, index):
        """The ring of which the arrow that comes closes a round, if it has no plan yet; None if there is none."""
        if not self._may_come(index):
            raise NoArrow(index)
        _, ring = with_arrow(self._sender, self._path, index)
        return None if ring in self._plans else ring

    def plan(self, ring, plan):
        """Go by this throwing plan for the rounds of the ring."""
        self._plans[ring] = plan

    def _closed(self, ring):
        """Count a round of the ring; the deeds that are done at once if a batch is full."""
        plan = self._plans[ring]
        self._rounds[ring] = self._rounds.get(ring, 0) + 1
        if self._rounds[ring] < plan[0]:
            return []
        self._rounds[ring] = 0
        return self._written.begin(ring, plan)

    def beat(self, index):
        """Go on by an arrow that may come: the deeds of the beat, and what is thrown away behind them."""
        _, target, amounts, crew = self._sender[1][index]
        deeds = self._written.done_by(index, crew)
        self._path, ring = with_arrow(self._sender, self._path, index)
        if ring is not None:
            deeds += self._closed(ring)
        thrown = self._written.thrown_away()
        lying = after(self._works, added(self._heaps, amounts), crew, deeds)
        self._heaps = tuple([many - gone for many, gone in zip(lying, thrown)])
        self._place = target
        self._log.append(index)
        return tuple(deeds), thrown

    def heaps(self):
        """The heaps behind the last beat."""
        return self._heaps

    def stands_at(self):
        """The place behind the last beat."""
        return self._place

    def log(self):
        """The indexes of the arrows of all beats."""
        return tuple(self._log)


class Tracker:
    """A builder that is led arrow by arrow, and keeps the told rooms."""

    def __init__(self, works, sender):
        held_rings(works, sender)
        self._works = works
        self._sender = sender
        self._late = Late(works, sender)

    def beat(self, index):
        """Go on by this arrow; the deeds of the beat."""
        ring = self._late.unplanned(index)
        if ring is not None:
            times, rows, free = plan_of(self._works, self._sender, ring)
            self._late.plan(ring, (times, no_heaps(self._works), rows, free))
        deeds, _ = self._late.beat(index)
        return deeds

    def heaps(self):
        """The heaps behind the last beat."""
        return self._late.heaps()

    def stands_at(self):
        """The place behind the last beat."""
        return self._late.stands_at()

    def log(self):
        """The indexes of the arrows of all beats."""
        return self._late.log()

    def twin(self):
        """An independent Tracker in the same state."""
        other = Tracker(self._works, self._sender)
        other._late = self._late.twin()
        return other
