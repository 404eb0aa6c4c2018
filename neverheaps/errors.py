"""The errors of the package: each one keeps what it was given."""


class HeapError(ValueError):
    """The base of all errors of the package; never raised itself."""


class Broken(HeapError):
    """This duty would not be kept."""

    def __init__(self, duty):
        self.duty = duty


class CannotBeDone(HeapError):
    """The deed with this index cannot be done."""

    def __init__(self, index):
        self.index = index


class Gains(HeapError):
    """This ring gains by this fair tariff."""

    def __init__(self, ring, tariff):
        self.ring = ring
        self.tariff = tariff


class NeverHelps(HeapError):
    """No number of hands works off what this ring brings, as this tariff tells."""

    def __init__(self, ring, tariff):
        self.ring = ring
        self.tariff = tariff


class NoArrow(HeapError):
    """This is not the index of an arrow that may come next."""

    def __init__(self, index):
        self.index = index


class NoCommand(HeapError):
    """The line is no command."""


class NoDuty(HeapError):
    """This is no duty of the works."""

    def __init__(self, duty):
        self.duty = duty


class NoIndex(HeapError):
    """There is nothing with this index."""

    def __init__(self, index):
        self.index = index


class NoLeast(HeapError):
    """Behind this run no builder is least."""

    def __init__(self, run):
        self.run = run


class NoName(HeapError):
    """There is nothing with this name."""

    def __init__(self, name):
        self.name = name


class NotApart(HeapError):
    """The works is not apart: the recipe with this index touches or puts."""

    def __init__(self, index):
        self.index = index


class NotEnough(HeapError):
    """On this run no play keeps the rooms."""

    def __init__(self, run):
        self.run = run


class NoText(HeapError):
    """The line with this index is bad, or missing."""

    def __init__(self, line):
        self.line = line


class Nothing(HeapError):
    """There is nothing to take back or to do again."""


class Piles(HeapError):
    """Behind this run some heap is above its room."""

    def __init__(self, run):
        self.run = run


class TooMany(HeapError):
    """There are more than this many."""

    def __init__(self, most):
        self.most = most


class Used(HeapError):
    """A kind or a hand has this name already."""

    def __init__(self, name):
        self.name = name


class Wrong(HeapError):
    """The argument at this place is not as described."""

    def __init__(self, place):
        self.place = place
