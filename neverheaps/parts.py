"""Senders that only bring, or only break, and senders made from senders."""


def is_bringer(sender):
    """Whether all crews are all 0."""
    return not any([many > 0 for _, _, _, crew in sender[1] for many in crew])


def is_breaker(sender):
    """Whether all amounts are all 0."""
    return not any([many > 0 for _, _, amounts, _ in sender[1] for many in amounts])


def bringer_of(sender):
    """The sender with crews of 0 in the place of its crews."""
    places, arrows = sender
    return places, tuple([(source, target, amounts, (0,) * len(crew)) for source, target, amounts, crew in arrows])


def breaker_of(sender):
    """The sender with amounts of 0 in the place of its amounts."""
    places, arrows = sender
    return places, tuple([(source, target, (0,) * len(amounts), crew) for source, target, amounts, crew in arrows])


def _moved(sender, by):
    """The arrows of a sender whose places are greater by so much."""
    return tuple([(source + by, target + by, amounts, crew) for source, target, amounts, crew in sender[1]])


def _begun(arrows, place):
    """Those arrows that come from the place, but from 0."""
    return tuple([(0, target, amounts, crew) for source, target, amounts, crew in arrows if source == place])


def either(one, other):
    """The sender that goes by one of both, for good."""
    ahead = 1 + one[0]
    first, second = _moved(one, 1), _moved(other, ahead)
    return ahead + other[0], _begun(first, 1) + _begun(second, ahead) + first + second


def without_arrows(sender, indexes):
    """The sender without the arrows with these indexes."""
    places, arrows = sender
    return places, tuple([arrow for index, arrow in enumerate(arrows) if index not in indexes])
