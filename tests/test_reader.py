"""[15]: what texts show, and which line of them is bad."""

import copy
import unittest

from neverheaps.errors import NoText, Wrong
from neverheaps.reader import read_run, read_sender, read_works
from neverheaps.texts import show_run, show_sender, show_works
from tests.samples import BARE, FULL, RINGS, SENDER, WORDY, WORKS, any_values, random_run, random_sender, random_works, seeded

AB = "kinds a b\nhands h"


def loose_couples(rng, words):
    """Couples of words in another order."""
    couples = [words[at:at + 2] for at in range(0, len(words), 2)]
    rng.shuffle(couples)
    return [word for couple in couples for word in couple]


def split_couples(words):
    """The couples of a number and a name ahead, and the words behind them."""
    many = 0
    while many < len(words) and words[many].isdigit():
        many += 2
    return words[:many], words[many:]


def loose_line(rng, line):
    """A line that shows the same, with other blanks, a remark, and couples in another order."""
    words = line.split(" ")
    heads = {"recipe": 1, "arrow": 3}.get(words[0])
    if heads:
        first, rest = split_couples(words[heads:])
        second, tail = split_couples(rest[1:])
        words = words[:heads] + loose_couples(rng, first) + rest[:1] + loose_couples(rng, second) + tail
    blanks = [" " * rng.randint(1, 3) for _ in words]
    made = " " * rng.randint(0, 2) + "".join(word + blank for word, blank in zip(words, blanks))
    made = made if rng.random() < 0.5 else made.rstrip(" ")
    return made + rng.choice(("", "#", "# 1 a", "#to # by"))


def loose_text(rng, text):
    """A text that shows the same."""
    lines = []
    for line in text.split("\n"):
        lines += rng.choice(([], [""], ["  "], ["# kinds"], ["", "   # x"])) + [loose_line(rng, line)]
    return "\n".join(lines + rng.choice(([], [""], ["#"], ["", " "])))


class ReaderTest(unittest.TestCase):

    def bad(self, line, function, *given):
        with self.assertRaises(NoText) as caught:
            function(*given)
        self.assertEqual(caught.exception.line, line, given[-1])
        self.assertIs(type(caught.exception.line), int)

    def wrong(self, place, function, *given):
        with self.assertRaises(Wrong) as caught:
            function(*given)
        self.assertEqual(caught.exception.place, place)

    def test_what_is_shown_is_read_back(self):
        for works in (WORKS, BARE, FULL, WORDY):
            self.assertEqual(read_works(show_works(works)), works)
        for sender in (SENDER, RINGS, (1, ()), (10, ())):
            self.assertEqual(read_sender(WORKS, show_sender(WORKS, sender)), sender)
        for run in ((), (0,), (0, 1, 0)):
            self.assertEqual(read_run(WORKS, SENDER, show_run(run)), run)

    def test_loose_texts_of_any_works(self):
        rng = seeded(15)
        for _ in range(200):
            works = random_works(rng)
            if rng.random() < 0.3:
                works = WORDY
            sender = random_sender(rng, works, 10, 24)
            run = random_run(rng, sender)
            before = copy.deepcopy((works, sender, run))
            for change in (str, lambda text: loose_text(rng, text)):
                self.assertEqual(read_works(change(show_works(works))), works)
                self.assertEqual(read_sender(works, change(show_sender(works, sender))), sender)
                self.assertEqual(read_run(works, sender, change(show_run(run))), run)
            self.assertEqual((works, sender, run), before)

    def test_blanks_remarks_and_empty_lines(self):
        text = "\n  # first\nkinds   a b# c\n\n hands h  # j\n#\nrecipe  1 b 2 a   to#\n recipe 1 a to 3 b by h\n\n"
        self.assertEqual(read_works(text), (("a", "b"), ("h",), (((2, 1), (0, 0), None), ((1, 0), (0, 3), "h"))))
        self.assertEqual(read_run(WORKS, SENDER, "#\n run 0  1 # 0\n\n"), (0, 1))
        self.assertEqual(read_run(WORKS, SENDER, "run# 0 1"), ())
        self.assertEqual(read_sender(WORKS, " places 1#0"), (1, ()))
        self.assertEqual(read_works("kinds a\nhands# h"), BARE)

    def test_words_of_the_language_as_names(self):
        text = "kinds to by with\nhands places arrow\nrecipe 1 to to 1 by by arrow\nrecipe 1 by to 2 with"
        works = (("to", "by", "with"), ("places", "arrow"), (((1, 0, 0), (0, 1, 0), "arrow"), ((0, 1, 0), (0, 0, 2), None)))
        self.assertEqual(read_works(text), works)
        sender = (1, ((0, 0, (1, 0, 4), (0, 2)),))
        self.assertEqual(read_sender(works, "places 1\narrow 0 0 4 with 1 to with 2 arrow"), sender)
        self.assertEqual(read_works("kinds kinds hands\nhands recipe"), (("kinds", "hands"), ("recipe",), ()))

    def test_great_numbers(self):
        self.assertEqual(read_sender(BARE, "places 9999999999\narrow 9999999998 0 9999999999 a with"), (
            9999999999, ((9999999998, 0, (9999999999,), ()),)))
        self.assertEqual(read_works("kinds a\nhands\nrecipe 9999999999 a to")[2], (((9999999999,), (0,), None),))
        self.bad(2, read_works, "kinds a\nhands\nrecipe 10000000000 a to")
        self.bad(0, read_sender, BARE, "places 10000000000")

    def test_bad_kinds_and_hands(self):
        for text in ("kinds", "kinds a a", "kinds a b c d e f", "kinds A", "kinds abcdefg", "kinds a 1", "kind a", "kinds a,b",
                     "hands h", "recipe 1 a to", "Kinds a", "kindsa", "a", "places 1", "run", "kinds a\t", "\tkinds a", "kinds \u00e4",
                     "kinds a b a"):
            self.bad(0, read_works, text)
            self.bad(3, read_works, "\n#\n\n" + text + "\nhands\n")
        for text in ("kinds a", "hands a", "hands h h", "hands h j k l", "hands H", "hands abcdefg", "recipe 1 a to", "hand",
                     "handsh", "hands h 1", "hands h b", "arrow 0 0 with"):
            self.bad(1, read_works, "kinds a b\n" + text)
            self.bad(2, read_works, "kinds a b\n#\n" + text + "\nnothing")

    def test_bad_recipes(self):
        for line in (
            "recipe", "recipe 1 a", "recipe to", "recipe to 1 b", "recipe 1 a to 1 a", "recipe 1 b to 1 a", "recipe 1 a 1 b to 1 b",
            "recipe 0 a to", "recipe 1 a to 0 b", "recipe 01 a to", "recipe +1 a to", "recipe -1 a to", "recipe 1.0 a to",
            "recipe 1 a 1 a to", "recipe 1 a to 1 b 2 b", "recipe 1 c to", "recipe 1 h to", "recipe 1 a to 1 c", "recipe a to",
            "recipe 1 to", "recipe 1 a to by", "recipe 1 a to by a", "recipe 1 a to by k", "recipe 1 a to by h h", "recipe 1 a by h",
            "recipe 1 a to h", "recipe 1 a to to", "recipe 1 a to 1", "recipe 1 a to b", "recipe 1 a 1 to", "recipes 1 a to",
            "kinds a b", "hands h", "places 1", "run", "recipe 1a to", "recipe 1 a,1 b to", "recipe 1 a to by h by h",
            "recipe 1 a to 1 b by h 1 b", "recipe \u0661 a to", "recipe 1 a TO", "recipe 1_0 a to", "recipe 1 A to",
            "recipe 00 a to", "recipe 1 a 0 b to", "recipe 1 a with", "by h recipe 1 a to", "recipe 1 a to\tby h",
        ):
            self.bad(2, read_works, AB + "\n" + line)
            self.bad(4, read_works, AB + "\nrecipe 1 a to\n\n" + line + "\nrecipe 1 c to")

    def test_a_ninth_recipe(self):
        text = AB + "\nrecipe 1 a to by h" * 8
        self.assertEqual(len(read_works(text)[2]), 8)
        self.bad(10, read_works, text + "\nrecipe 1 a to by h")
        self.bad(11, read_works, text + "\n#\nrecipe 1 a to")
        self.bad(3, read_works, AB + "\nrecipe 1 a to" + "\nrecipe" * 9)

    def test_bad_senders(self):
        for line in ("places", "places 0", "places 01", "places a", "places 1 1", "places -1", "place 1", "arrow 0 0 with", "run",
                     "places +1", "places 1 a", "kinds a", "places 1.", "1"):
            self.bad(0, read_sender, WORKS, line)
            self.bad(1, read_sender, WORKS, "\n" + line + "\narrow")
        for line in (
            "arrow", "arrow 0", "arrow 0 0", "arrow 0 with", "arrow 0 2 with", "arrow 2 0 with", "arrow 0 00 with", "arrow 01 0 with",
            "arrow -1 0 with", "arrow 0 0 1 a", "arrow 0 0 1 a with 1", "arrow 0 0 1 a with 1 a", "arrow 0 0 1 h with", "arrow 0 0 a with",
            "arrow 0 0 0 a with", "arrow 0 0 with 0 h", "arrow 0 0 1 a 1 a with", "arrow 0 0 with 1 h 2 h", "arrow 0 0 with with",
            "arrow 0 0 with 1 h h", "arrow 0 0 1 d with", "arrow 0 0 with 1 k", "arrow 0 0 1 with", "arrow 0 0 to", "arrow 0 0 1 0 with",
            "arrows 0 0 with", "places 2", "run", "arrow 0 0 01 a with", "arrow a 0 with", "arrow 0 0 1 a with 12345678901 h",
        ):
            self.bad(1, read_sender, WORKS, "places 2\n" + line)
            self.bad(3, read_sender, WORKS, "places 2\narrow 0 1 with\n#\n" + line + "\narrow")

    def test_bad_runs(self):
        for line in ("runs", "run 1", "run 0 0", "run 2", "run 00", "run a", "run 0 1 1", "run -1", "run 0,1", "arrow 0 0 with", "0",
                     "run 0 a", "run 0 1 h", "run 0 1 2"):
            self.bad(0, read_run, WORKS, SENDER, line)
            self.bad(2, read_run, WORKS, SENDER, "\n \n" + line + "\nrun 0")
        self.bad(1, read_run, WORKS, SENDER, "run 0\nrun 0")
        self.bad(3, read_run, WORKS, SENDER, "run 0\n#\n\n0 1\nrun")

    def test_texts_that_end_too_early(self):
        for text, lines in (("", 1), ("\n", 2), ("# run", 1), (" \n#\n", 3)):
            self.bad(lines, read_works, text)
            self.bad(lines, read_sender, WORKS, text)
            self.bad(lines, read_run, WORKS, SENDER, text)
        self.bad(1, read_works, "kinds a")
        self.bad(4, read_works, "\nkinds a\n#\n")
        self.assertEqual(read_works("kinds a\nhands"), BARE)

    def test_the_first_bad_line_is_told(self):
        self.bad(0, read_works, "kinds\nhands h h")
        self.bad(1, read_works, "kinds a\nhands a\nrecipe")
        self.bad(3, read_works, "kinds a\nhands\n\nrecipe\nrecipe")
        self.bad(0, read_sender, WORKS, "places 0\narrow")
        self.bad(0, read_run, WORKS, SENDER, "run 1\nrun 1")

    def test_wrong_places(self):
        for value in any_values():
            if not isinstance(value, str):
                self.wrong(0, read_works, value)
                self.wrong(1, read_sender, WORKS, value)
                self.wrong(2, read_run, WORKS, SENDER, value)
            # Of these values just two show a works, and one a sender of this one.
            if value not in (WORKS, (("a",), ("h",), ())):
                self.wrong(0, read_sender, value, "places 1")
                self.wrong(0, read_run, value, SENDER, "run")
                self.wrong(0, read_sender, value, None)
                self.wrong(0, read_run, value, None, None)
            if value != SENDER:
                self.wrong(1, read_run, WORKS, value, "run")
                self.wrong(1, read_run, WORKS, value, None)
        self.wrong(1, read_run, BARE, SENDER, "run")

    def test_wrong_comes_ahead_of_bad_lines(self):
        self.wrong(0, read_sender, list(WORKS), "bad")
        self.wrong(1, read_run, WORKS, (0, ()), "bad")

    def test_any_text_is_answered(self):
        rng = seeded(16)
        words = ["kinds", "hands", "recipe", "to", "by", "a", "b", "h", "1", "2", "0", "places", "arrow", "run", "with", "#", "\n", "\n", ""]
        for _ in range(3000):
            text = " ".join(rng.choice(words) for _ in range(rng.randint(0, 14)))
            for function, given in ((read_works, ()), (read_sender, (WORKS,)), (read_run, (WORKS, SENDER))):
                try:
                    function(*given, text)
                except NoText as error:
                    self.assertTrue(0 <= error.line <= text.count("\n") + 1)
        for text in ("x" * 12000, "\n" * 12000, "1 " * 6000, "#" * 12000, "run" + " 0 1" * 2990):
            self.bad(0 if text[0] != "\n" and text[0] != "#" else text.count("\n") + 1, read_works, text)
        self.assertEqual(len(read_run(WORKS, SENDER, "run" + " 0 1" * 2990)), 5980)


if __name__ == "__main__":
    unittest.main()
