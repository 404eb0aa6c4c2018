"""A desk: lines of words that lead a Book of a works."""

from neverheaps.book import Book, is_duty
from neverheaps.errors import Broken, NoCommand, NoIndex, NoName, NoText, Nothing, TooMany, Wrong
from neverheaps.reader import Line, read_works, recipe_in, sender_in, words_of
from neverheaps.texts import show_sender, show_works


def _parts(line):
    """The lines, between words that are a semicolon, of what is left of a line."""
    parts = [[]]
    while not line.is_read():
        word = line.word()
        if word == ";":
            parts.append([])
        else:
            parts[-1].append(word)
    return [Line(line.index, words) for words in parts]


def _last_name(line):
    """The name that ends a line."""
    name = line.one_name()
    line.end()
    return name


def _last_number(line):
    """The number that ends a line."""
    number = line.number()
    line.end()
    return number


def _send(book, line):
    """Put a sender under a name."""
    name = line.one_name()
    line.keyword("=")
    book.send(name, sender_in(book.works(), _parts(line)))


def _drop(book, line):
    """Take a sender out."""
    book.drop(_last_name(line))


def _owe(book, line):
    """Put a duty behind all others."""
    word, name, numbers = line.word(), line.one_name(), line.numbers()
    duty = (word, name, numbers) if numbers else (word, name)
    line.check(is_duty(book.works(), duty))
    book.owe(duty)


def _free(book, line):
    """Take a duty out."""
    book.free(_last_number(line))


def _add(book, line):
    """Put a recipe behind all others."""
    book.add(recipe_in(book.works(), line))


def _take(book, line):
    """Take a recipe out."""
    book.take(_last_number(line))


def _back(book, line):
    """Take the last change back."""
    line.end()
    book.back()


def _again(book, line):
    """Do the change that was taken back last once more."""
    line.end()
    book.again()


def _tell_works(book, line):
    """The lines of the works."""
    line.end()
    return show_works(book.works()).split("\n")


def _tell_sender(book, line):
    """The lines of a sender."""
    name, senders = _last_name(line), book.senders()
    if name not in senders:
        return ["refused NoName"]
    return show_sender(book.works(), senders[name]).split("\n")


def _tell_names(book, line):
    """The names of the senders."""
    line.end()
    return list(book.senders())


def _tell_held(book, line):
    """The names of the senders that the works holds."""
    line.end()
    return book.held()


def _tell_duties(book, line):
    """The words of each duty."""
    line.end()
    found = []
    for duty in book.duties():
        numbers = duty[2] if len(duty) == 3 else ()
        found.append(" ".join([duty[0], duty[1]] + [str(number) for number in numbers]))
    return found


CHANGES = {
    "send": _send, "drop": _drop, "owe": _owe, "free": _free, "add": _add, "take": _take, "back": _back, "again": _again
}
QUESTIONS = {
    "works": _tell_works, "sender": _tell_sender, "names": _tell_names, "held": _tell_held, "duties": _tell_duties
}


def _changed(book, word, line):
    """The answer to a change of the book."""
    change = CHANGES[word]
    try:
        change(book, line)
    except Broken:
        return ["refused Broken"]
    except NoIndex:
        return ["refused NoIndex"]
    except NoName:
        return ["refused NoName"]
    except Nothing:
        return ["refused Nothing"]
    except TooMany:
        return ["refused TooMany"]
    return ["done"]


def _answer(book, line):
    """The answer to a line; NoText if it is no command."""
    word = line.word()
    if word in QUESTIONS:
        question = QUESTIONS[word]
        return question(book, line)
    line.check(word in CHANGES)
    return _changed(book, word, line)


class Desk:
    """A Book that is led line by line."""

    def __init__(self, text):
        self._book = Book(read_works(text))

    def execute(self, line):
        """Carry out a line; its answer."""
        if not isinstance(line, str):
            raise Wrong(0)
        try:
            return _answer(self._book, Line(0, words_of(line)))
        except NoText:
            raise NoCommand() from None

    def book(self):
        """A twin of the Book."""
        return self._book.twin()
