"""Works, senders and values that the tests share."""

import copy
import random

from neverheaps import errors
from neverheaps.book import Book
from neverheaps.desk import Desk
from neverheaps.store import Heaps
from neverheaps.thrower import Thrower
from neverheaps.tracker import Tracker

# The works and the sender of the document's examples.
WORKS = (("a", "b", "c"), ("h",), (((2, 0, 0), (0, 1, 0), "h"), ((0, 1, 1), (0, 0, 0), None)))
SENDER = (2, ((0, 1, (2, 0, 0), (1,)), (1, 0, (0, 0, 1), (0,))))
# Nothing at all but a kind.
BARE = (("a",), (), ())
# As much as may be: five kinds, three hands, eight recipes, two of them the same.
FULL = (
    ("a", "b", "c", "d", "e"),
    ("h", "j", "k"),
    (
        ((2, 0, 0, 0, 0), (0, 1, 3, 0, 0), "h"),
        ((1, 4, 0, 0, 0), (0, 0, 0, 2, 0), "j"),
        ((0, 0, 2, 0, 0), (0, 0, 0, 1, 1), None),
        ((1, 0, 1, 3, 0), (0, 0, 0, 0, 4), "k"),
        ((0, 0, 0, 0, 1), (0, 0, 0, 0, 0), "k"),
        ((0, 1, 0, 0, 2), (0, 0, 0, 0, 0), "h"),
        ((0, 1, 0, 0, 2), (0, 0, 0, 0, 0), "h"),
        ((4, 4, 4, 4, 4), (0, 0, 0, 0, 0), None),
    ),
)
# Names that are words of the texts.
WORDY = (("to", "by"), ("with", "kinds"), (((1, 0), (0, 2), "with"), ((3, 4), (0, 0), "kinds"), ((0, 1), (0, 0), None)))
# Places that are come to, and 3, which is not; a ring of two, one of three, one of one, one that is not come to.
RINGS = (
    4,
    (
        (0, 1, (1, 0, 0), (0,)),
        (1, 0, (0, 0, 0), (1,)),
        (1, 2, (0, 9, 0), (9,)),
        (2, 0, (0, 0, 1), (0,)),
        (1, 1, (0, 0, 0), (0,)),
        (3, 3, (0, 0, 0), (0,)),
        (3, 0, (0, 0, 0), (0,)),
        (2, 1, (0, 0, 0), (2,)),
    ),
)


def deep(levels):
    """A list in lists, so many deep."""
    thing = []
    for _ in range(levels):
        thing = [thing]
    return thing


def own_values():
    """Objects of the package, as values."""
    book = Book(WORKS)
    return [
        book, [book], (book, book), {"a": book}, Desk("kinds a\nhands"), Heaps(BARE), errors.Broken(book), Tracker(BARE, (1, ())),
        Thrower(BARE, (1, ()), (1,)),
    ]


def any_values():
    """Values of all the kinds that [4] names."""
    return own_values() + [
        None, True, False, 0, 1, -1, 2, 10 ** 39, -(10 ** 39), "", "a", "h", "to", "a b\n# c~", "x" * 12000,
        [], (), {}, [0], (0,), (1, 1), (0, 1), ((),), ([],), ({},), (None, None), (True, False), {0: 1}, {"a": (1, [2])},
        {(0, (0,)): ((0, ()),)}, deep(18), tuple([0] * 2900), [("a",)] * 1000, WORKS, list(WORKS), SENDER, ("a", "h"),
        Heaps(WORKS), [Heaps(WORKS)], (Heaps(BARE), Heaps(BARE)), errors.Nothing(), (errors.Wrong(0), 1),
        ((1, 1), (1,)), ((1, 2), (1, 2)), (WORKS, SENDER), (("a",), ("h",), ()), ((("a",),),) * 3,
    ]


def _wrong_parts(part):
    """Values that never may stand in the place of a part."""
    if part is None:
        return [True, False, 0, 1, "zzz", (), [], {}]
    if isinstance(part, int):
        return [True, False, None, str(part), (part,), [part], {part: part}, errors.Nothing()]
    if isinstance(part, str):
        return [True, 0, "", "A", "a b", part.upper(), part + "#", "abcdefg", "\u00e9", (part,), [part], {part: part}]
    if isinstance(part, tuple):
        return [None, True, 0, 1, "a", list(part), dict(enumerate(part)), part + (None,), (None,) + part, Heaps(WORKS)]
    if isinstance(part, list):
        return [None, False, 0, "a", tuple(part), dict(enumerate(part)), part + [None], errors.Wrong(part)]
    return []


def otherwise(thing):
    """Things like this one, with just one part, at any depth, that may not stand there."""
    for part in _wrong_parts(thing):
        yield part
    if isinstance(thing, (tuple, list)):
        for at, item in enumerate(thing):
            for other in otherwise(item):
                changed = list(thing)
                changed[at] = other
                yield tuple(changed) if isinstance(thing, tuple) else changed


def random_recipe(rng, kinds, hands, most=4):
    """A recipe that may stand in a works with so many kinds, and these hands."""
    last = rng.randrange(kinds)
    takes = [rng.randint(0, most) if kind < last else 0 for kind in range(kinds)]
    takes[last] = rng.randint(1, most)
    puts = [rng.choice((0, rng.randint(1, most))) if kind > last else 0 for kind in range(kinds)]
    return tuple(takes), tuple(puts), rng.choice(hands + (None,))


def random_works(rng, kinds=None, hands=None, recipes=None, most=4):
    """A works of any size, or of the size that is told."""
    kinds = rng.randint(1, 5) if kinds is None else kinds
    hands = rng.randint(0, 3) if hands is None else hands
    recipes = rng.randint(0, 8) if recipes is None else recipes
    names = ("h", "j", "k")[:hands]
    made = tuple(random_recipe(rng, kinds, names, most) for _ in range(recipes))
    return ("a", "b", "c", "d", "e")[:kinds], names, made


def random_sender(rng, works, places=4, arrows=8):
    """A sender of the works."""
    made = []
    for _ in range(rng.randint(0, arrows)):
        amounts = tuple(rng.choice((0, rng.randint(0, 9))) for _ in works[0])
        crew = tuple(rng.randint(0, 3) for _ in works[1])
        made.append((rng.randrange(places), rng.randrange(places), amounts, crew))
    return places, tuple(made)


def random_run(rng, sender, most=12):
    """A run of the sender."""
    run, place = [], 0
    for _ in range(rng.randint(0, most)):
        steps = [index for index, arrow in enumerate(sender[1]) if arrow[0] == place]
        if not steps:
            break
        run.append(rng.choice(steps))
        place = sender[1][run[-1]][1]
    return tuple(run)


def seeded(seed):
    """A generator of random numbers that are always the same."""
    return random.Random(seed)


def _open_parts(thing):
    """All lists and dicts in a thing, itself included."""
    if isinstance(thing, dict):
        return [thing] + [part for item in thing.values() for part in _open_parts(item)]
    if isinstance(thing, (list, tuple)):
        return ([thing] if isinstance(thing, list) else []) + [part for item in thing for part in _open_parts(item)]
    return []


def asked(test, function, *arguments):
    """What a function returns, or the error that it raises: no argument is changed, and all that is returned is new."""
    before = copy.deepcopy(arguments)
    results = []
    for _ in range(2):
        try:
            results.append(function(*arguments))
        except errors.HeapError as error:
            results.append((type(error), error.__dict__))
    test.assertEqual(arguments, before)
    test.assertEqual(results[0], results[1])
    parts = [id(part) for part in _open_parts(results[0]) + _open_parts(results[1]) + _open_parts(arguments)]
    test.assertEqual(len(parts), len(set(parts)))
    if isinstance(results[0], dict):
        test.assertEqual(list(results[0]), sorted(results[0]))
    return results[0]


def circle(steps, load=((0,), ()), loops=0):
    """A sender with so many arrows from each place to the next one, round and round, and arrows from 0 to 0.

    It has as many rings as the product of the steps, and the loops.
    """
    size = len(steps)
    arrows = [(place, (place + 1) % size) + load for place, many in enumerate(steps) for _ in range(many)]
    return size, tuple(arrows + [(0, 0) + load] * loops)


# 2,000 rings of 23 arrows: as many as may be.
MANY = (2, 2, 2, 2, 5, 5, 5)
