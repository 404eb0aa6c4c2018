"""Works, senders and runs, read from the texts that show them."""

from neverheaps.errors import NoText, Wrong
from neverheaps.forms import MOST_HANDS, MOST_KINDS, MOST_RECIPES
from neverheaps.forms import is_name, is_recipe, is_run, is_sender, is_works

MOST_DIGITS = 10


def _is_number(word):
    """Whether a word is an integer from 0 on as Python shows it, not too long."""
    if len(word) > MOST_DIGITS or not all(["0" <= sign <= "9" for sign in word]):
        return False
    return word == "0" or word[0] != "0"


class Line:
    """The words of a line, read one after the other; NoText where one is bad."""

    def __init__(self, index, words):
        self.index = index
        self.words = words
        self.at = 0

    def is_read(self):
        """Whether no word is left."""
        return self.at == len(self.words)

    def check(self, fine):
        """Refuse the line unless all is fine."""
        if not fine:
            raise NoText(self.index)

    def end(self):
        """Refuse words that are left."""
        self.check(self.is_read())

    def word(self):
        """The next word, of any kind."""
        self.check(not self.is_read())
        self.at += 1
        return self.words[self.at - 1]

    def keyword(self, word):
        """Read this very word."""
        self.check(self.word() == word)

    def number(self):
        """Read a number."""
        word = self.word()
        self.check(_is_number(word))
        return int(word)

    def numbers(self):
        """Read all words that are left: numbers."""
        found = []
        while not self.is_read():
            found.append(self.number())
        return tuple(found)

    def one_name(self):
        """Read a name."""
        word = self.word()
        self.check(is_name(word))
        return word

    def names(self):
        """Read all words that are left: different names."""
        found = []
        while not self.is_read():
            name = self.one_name()
            self.check(name not in found)
            found.append(name)
        return tuple(found)

    def amounts(self, names):
        """Read couples of a number and a name, as long as numbers come."""
        found = [0] * len(names)
        # A name may be any word, so only a number tells that a couple follows.
        while not self.is_read() and _is_number(self.words[self.at]):
            many, name = self.number(), self.word()
            self.check(many > 0 and name in names and found[names.index(name)] == 0)
            found[names.index(name)] = many
        return tuple(found)


def words_of(line):
    """The words of a line."""
    return [word for word in line.split(" ") if word != ""]


def _lines_of(text):
    """The lines in which something is left, and behind them one without words for the end of the text."""
    lines = text.split("\n")
    found = [Line(index, words_of(line.partition("#")[0])) for index, line in enumerate(lines)]
    return [line for line in found if not line.is_read()] + [Line(len(lines), [])]


def _read_kinds(line):
    """The kinds of a works."""
    line.keyword("kinds")
    kinds = line.names()
    line.check(1 <= len(kinds) <= MOST_KINDS)
    return kinds


def _read_hands(line, kinds):
    """The hands of a works with these kinds."""
    line.keyword("hands")
    hands = line.names()
    line.check(len(hands) <= MOST_HANDS and not any([hand in kinds for hand in hands]))
    return hands


def recipe_in(works, line):
    """The recipe that a line shows, which may stand in the works."""
    line.keyword("recipe")
    takes = line.amounts(works[0])
    line.keyword("to")
    puts = line.amounts(works[0])
    hand = None
    if not line.is_read():
        line.keyword("by")
        hand = line.word()
    recipe = (takes, puts, hand)
    line.end()
    line.check(is_recipe(works, recipe))
    return recipe


def read_works(text):
    """The works that a text shows."""
    if not isinstance(text, str):
        raise Wrong(0)
    lines = _lines_of(text)
    kinds = _read_kinds(lines[0])
    hands = _read_hands(lines[1], kinds)
    recipes = ()
    for line in lines[2:-1]:
        line.check(len(recipes) < MOST_RECIPES)
        recipes = recipes + (recipe_in((kinds, hands, recipes), line),)
    return kinds, hands, recipes


def _read_places(line):
    """The number of places of a sender."""
    line.keyword("places")
    places = line.number()
    line.end()
    line.check(places >= 1)
    return places


def _read_arrow(line, works, places):
    """An arrow of a sender with so many places."""
    line.keyword("arrow")
    source, target = line.number(), line.number()
    line.check(source < places and target < places)
    amounts = line.amounts(works[0])
    line.keyword("with")
    crew = line.amounts(works[1])
    line.end()
    return source, target, amounts, crew


def sender_in(works, lines):
    """The sender of the works that some lines show, at least one."""
    places = _read_places(lines[0])
    return places, tuple([_read_arrow(line, works, places) for line in lines[1:]])


def read_sender(works, text):
    """The sender of the works that a text shows."""
    if not is_works(works):
        raise Wrong(0)
    if not isinstance(text, str):
        raise Wrong(1)
    lines = _lines_of(text)
    # The end of the text is refused if there is nothing ahead of it.
    return sender_in(works, lines[:-1] or lines)


def read_run(works, sender, text):
    """The run of the sender that a text shows."""
    if not is_works(works):
        raise Wrong(0)
    if not is_sender(works, sender):
        raise Wrong(1)
    if not isinstance(text, str):
        raise Wrong(2)
    lines = _lines_of(text)
    first = lines[0]
    first.keyword("run")
    run = first.numbers()
    first.check(is_run(sender, run))
    for line in lines[1:-1]:
        line.check(False)
    return run
