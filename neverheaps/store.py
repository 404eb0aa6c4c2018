"""A works in which beats are done, taken back and done again."""

from neverheaps.errors import Nothing, Wrong
from neverheaps.forms import is_works
from neverheaps.play import added, after, no_heaps


class Heaps:
    """The heaps of a works, beat by beat."""

    def __init__(self, works):
        if not is_works(works):
            raise Wrong(0)
        self._works = works
        self._lying = [no_heaps(works)]
        self._done = []
        # What was taken back, the last one last: tuples (beat, heaps behind it).
        self._undone = []

    def beat(self, amounts, crew, deeds):
        """Add the amounts, then do the deeds by the crew."""
        lying = after(self._works, added(self._lying[-1], amounts), crew, deeds)
        self._done.append((amounts, crew, deeds))
        self._lying.append(lying)
        self._undone = []

    def heaps(self):
        """The heaps behind the last beat."""
        return self._lying[-1]

    def beats(self):
        """How many beats were done and stand."""
        return len(self._done)

    def log(self):
        """The list of the beats that stand, each as what it was given."""
        return list(self._done)

    def back(self):
        """Take the last beat back."""
        if len(self._done) == 0:
            raise Nothing()
        self._undone.append((self._done.pop(), self._lying.pop()))

    def again(self):
        """Do the beat that was taken back last once more."""
        if len(self._undone) == 0:
            raise Nothing()
        beat, lying = self._undone.pop()
        self._done.append(beat)
        self._lying.append(lying)

    def twin(self):
        """An independent object in the same state."""
        twin = Heaps(self._works)
        twin._lying = list(self._lying)
        twin._done = list(self._done)
        twin._undone = list(self._undone)
        return twin
