"""Texts that show works, senders and runs."""


def _couples(amounts, names):
    """The words that say how much there is of each name, without those of which there is nothing."""
    words = []
    for many, name in zip(amounts, names):
        if many > 0:
            words += [str(many), name]
    return words


def _recipe_words(works, recipe):
    """The words of the line of a recipe."""
    takes, puts, hand = recipe
    words = ["recipe"] + _couples(takes, works[0]) + ["to"] + _couples(puts, works[0])
    if hand is None:
        return words
    return words + ["by", hand]


def _arrow_words(works, arrow):
    """The words of the line of an arrow."""
    source, target, amounts, crew = arrow
    ahead = ["arrow", str(source), str(target)] + _couples(amounts, works[0])
    return ahead + ["with"] + _couples(crew, works[1])


def _text(lines):
    """The text of lines, each a list of words."""
    return "\n".join([" ".join(words) for words in lines])


def show_works(works):
    """The text that shows a works."""
    kinds, hands, recipes = works
    lines = [["kinds"] + list(kinds), ["hands"] + list(hands)]
    return _text(lines + [_recipe_words(works, recipe) for recipe in recipes])


def show_sender(works, sender):
    """The text that shows a sender of the works."""
    places, arrows = sender
    return _text([["places", str(places)]] + [_arrow_words(works, arrow) for arrow in arrows])


def show_run(run):
    """The text that shows a run."""
    return _text([["run"] + [str(index) for index in run]])
