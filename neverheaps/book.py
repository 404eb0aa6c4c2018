"""A book of a works, its senders and its duties, which are kept whatever is changed."""

from neverheaps.errors import Broken, NeverHelps, NoDuty, NoIndex, NoName, Nothing, Wrong
from neverheaps.exact import is_less
from neverheaps.factor import least_factor
from neverheaps.forms import is_amounts, is_fraction, is_integer, is_name, is_recipe, is_sender, is_works
from neverheaps.held import holds
from neverheaps.tables import are_enough
from neverheaps.works import with_recipe, without_recipes


def is_duty(works, thing):
    """Whether thing is a DUTY of the works."""
    if not isinstance(thing, tuple) or not 2 <= len(thing) <= 3 or not is_name(thing[1]):
        return False
    if len(thing) == 2:
        return thing[0] == "hold"
    if thing[0] == "rooms":
        return is_amounts(works, thing[2])
    return thing[0] == "factor" and is_fraction(thing[2]) and thing[2][0] > 0


def _is_helped(works, sender, fraction):
    """Whether the least factor is at most the fraction."""
    try:
        least = least_factor(works, sender)
    except NeverHelps:
        return False
    return not is_less(fraction, least)


def keeps_duty(works, sender, duty):
    """Whether a works keeps a duty, its name being that of this sender."""
    if duty[0] == "hold":
        return holds(works, sender)
    if duty[0] == "rooms":
        return are_enough(works, sender, duty[2])
    return _is_helped(works, sender, duty[2])


def _without(items, index):
    """The items without the one with this index."""
    return items[:index] + items[index + 1:]


class Book:
    """A works, senders of it by names, and the duties that it owes them."""

    def __init__(self, works):
        if not is_works(works):
            raise Wrong(0)
        # A state is a tuple (works, senders, duties). None is ever changed, so states can be shared.
        self._now = (works, {}, ())
        self._past = []
        # What was taken back, the last one last.
        self._undone = []

    def _change(self, works, senders, duties):
        """Go on to another state."""
        self._past.append(self._now)
        self._now = (works, senders, duties)
        self._undone = []

    def _check(self, works, senders, duties):
        """Refuse a change by which one of these duties would not be kept."""
        for duty in duties:
            if not keeps_duty(works, senders[duty[1]], duty):
                raise Broken(duty)

    def _owed_to(self, name):
        """The tuple of the duties that name a sender."""
        return tuple([duty for duty in self._now[2] if duty[1] == name])

    def _check_name(self, name):
        """Refuse what is no name of a sender."""
        if not is_name(name) or name not in self._now[1]:
            raise NoName(name)

    def send(self, name, sender):
        """Put a sender under a name."""
        works, senders, duties = self._now
        if not is_name(name):
            raise Wrong(0)
        if not is_sender(works, sender):
            raise Wrong(1)
        changed = {**senders, name: sender}
        self._check(works, changed, self._owed_to(name))
        self._change(works, changed, duties)

    def drop(self, name):
        """Take the sender with this name out, and return it."""
        works, senders, duties = self._now
        self._check_name(name)
        owed = self._owed_to(name)
        if owed:
            raise Broken(owed[0])
        self._change(works, {other: senders[other] for other in senders if other != name}, duties)
        return senders[name]

    def owe(self, duty):
        """Put a duty behind all others."""
        works, senders, duties = self._now
        if not is_duty(works, duty):
            raise NoDuty(duty)
        self._check_name(duty[1])
        self._check(works, senders, (duty,))
        self._change(works, senders, duties + (duty,))

    def free(self, index):
        """Take the duty with this index out, and return it."""
        works, senders, duties = self._now
        if not is_integer(index) or not 0 <= index < len(duties):
            raise NoIndex(index)
        self._change(works, senders, _without(duties, index))
        return duties[index]

    def add(self, recipe):
        """Put a recipe behind all others."""
        works, senders, duties = self._now
        if not is_recipe(works, recipe):
            raise Wrong(0)
        self._change(with_recipe(works, recipe), senders, duties)

    def take(self, index):
        """Take the recipe with this index out, and return it."""
        works, senders, duties = self._now
        if not is_integer(index) or not 0 <= index < len(works[2]):
            raise NoIndex(index)
        changed = without_recipes(works, (index,))
        self._check(changed, senders, duties)
        self._change(changed, senders, duties)
        return works[2][index]

    def works(self):
        """The works."""
        return self._now[0]

    def senders(self):
        """The dict from the names to the senders."""
        return {name: self._now[1][name] for name in sorted(self._now[1])}

    def duties(self):
        """The list of the duties."""
        return list(self._now[2])

    def is_kept(self, duty):
        """Whether a duty, whose name is one of a sender, is kept."""
        works, senders, _ = self._now
        return keeps_duty(works, senders[duty[1]], duty)

    def held(self):
        """The ascending list of the names of the senders that the works holds."""
        works, senders, _ = self._now
        return [name for name in sorted(senders) if holds(works, senders[name])]

    def back(self):
        """Take the last change back."""
        if not self._past:
            raise Nothing()
        self._undone.append(self._now)
        self._now = self._past.pop()

    def again(self):
        """Do the change that was taken back last once more."""
        if not self._undone:
            raise Nothing()
        self._past.append(self._now)
        self._now = self._undone.pop()

    def twin(self):
        """An independent Book in the same state."""
        other = Book(self._now[0])
        other._now = self._now
        other._past = list(self._past)
        other._undone = list(self._undone)
        return other

    def __eq__(self, other):
        """Whether the other one is a Book with the same works, senders and duties."""
        return isinstance(other, Book) and self._now == other._now
