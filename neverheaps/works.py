"""Questions about a works, and works made from works."""

from neverheaps.errors import NoName, TooMany, Used
from neverheaps.forms import MOST_HANDS, MOST_RECIPES


def _place_among(names, name):
    """The index of a name among the names; NoName for any other value."""
    if name not in names:
        raise NoName(name)
    return names.index(name)


def kind_place(works, name):
    """The index of a kind among the kinds."""
    return _place_among(works[0], name)


def hand_place(works, name):
    """The index of a hand among the hands."""
    return _place_among(works[1], name)


def _is_put(works, kind):
    """Whether some recipe puts the kind with this index."""
    return any([puts[kind] > 0 for _, puts, _ in works[2]])


def raw_kinds(works):
    """The kinds, in order, that no recipe puts."""
    return tuple([name for kind, name in enumerate(works[0]) if not _is_put(works, kind)])


def _depth(takes, kind_depths):
    """The greatest depth of a kind that is taken."""
    return max([depth for taken, depth in zip(takes, kind_depths) if taken > 0])


def _kind_depths(works):
    """For each kind 1 more than the greatest depth of a recipe that puts it, or 0."""
    depths = [0] * len(works[0])
    # What puts a kind takes only kinds ahead of it, whose depths are known by then.
    for kind in range(len(depths)):
        for takes, puts, _ in works[2]:
            if puts[kind] > 0:
                depths[kind] = max(depths[kind], 1 + _depth(takes, depths))
    return depths


def levels(works):
    """The depth of each recipe."""
    depths = _kind_depths(works)
    return [_depth(takes, depths) for takes, _, _ in works[2]]


def renamed_works(works, names):
    """The works with the name that the dict has for each kind and hand."""
    kinds, hands, recipes = works
    renamed = []
    for takes, puts, hand in recipes:
        renamed.append((takes, puts, None if hand is None else names[hand]))
    return tuple([names[kind] for kind in kinds]), tuple([names[hand] for hand in hands]), tuple(renamed)


def with_recipe(works, recipe):
    """The works with a further recipe behind all others."""
    kinds, hands, recipes = works
    if len(recipes) >= MOST_RECIPES:
        raise TooMany(MOST_RECIPES)
    return kinds, hands, recipes + (recipe,)


def without_recipes(works, indexes):
    """The works without the recipes with these indexes."""
    kinds, hands, recipes = works
    return kinds, hands, tuple([recipe for index, recipe in enumerate(recipes) if index not in indexes])


def with_hand(works, name):
    """The works with a further hand behind all others, which no recipe wants."""
    kinds, hands, recipes = works
    if name in kinds or name in hands:
        raise Used(name)
    if len(hands) >= MOST_HANDS:
        raise TooMany(MOST_HANDS)
    return kinds, hands + (name,), recipes


def led_sender(sender, many):
    """The sender in which each crew has a further item, many."""
    places, arrows = sender
    led = [(source, target, amounts, crew + (many,)) for source, target, amounts, crew in arrows]
    return places, tuple(led)
