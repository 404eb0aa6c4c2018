"""[48]: a Desk, line by line."""

import re
import unittest

from neverheaps.book import Book
from neverheaps.desk import Desk
from neverheaps.errors import HeapError, NoCommand, NoName, NoText, Wrong
from neverheaps.reader import read_sender, read_works
from neverheaps.texts import show_sender, show_works
from tests.samples import FULL, SENDER, WORDY, WORKS, any_values, random_recipe, random_sender, random_works, seeded

TEXT = "kinds a b\nhands h\nrecipe 1 a to by h"


def lines_of(desk):
    """All that a desk tells."""
    found = [desk.execute(line) for line in ("works", "names", "held", "duties")]
    return found + [desk.execute("sender " + name) for name in desk.execute("names")]


class DeskTest(unittest.TestCase):

    def desk(self, *lines):
        desk = Desk(TEXT)
        for line in lines:
            self.assertEqual(desk.execute(line), ["done"], line)
        return desk

    def no_command(self, desk, line):
        before, book = lines_of(desk), desk.book()
        with self.assertRaises(NoCommand) as caught:
            desk.execute(line)
        self.assertEqual([caught.exception.__dict__, lines_of(desk), desk.book() == book], [{}, before, True], line)

    def test_the_example(self):
        desk = Desk(TEXT)
        self.assertEqual([desk.execute("send s = places 1 ; arrow 0 0 1 a with 1 h"), desk.execute("owe hold s"), desk.execute("take 0")],
                         [["done"], ["done"], ["refused Broken"]])
        self.assertEqual([desk.execute("add recipe 1 b to"), desk.execute("works"), desk.execute("duties")],
                         [["done"], ["kinds a b", "hands h", "recipe 1 a to by h", "recipe 1 b to"], ["hold s"]])

    def test_the_text(self):
        for works in (WORKS, FULL, WORDY):
            desk = Desk(show_works(works))
            self.assertTrue(desk.book() == Book(works))
            self.assertEqual(desk.execute("works"), show_works(works).split("\n"))
        self.assertEqual(Desk("# a works\n\n  kinds   b # c\nhands").execute("works"), ["kinds b", "hands"])
        for text in ["", "kinds", "kinds a", "kinds a\nhands a", "kinds a b\nhands h\nrecipe 1 b to 1 a", "kinds a\nhands\nplaces 1", "\n\n",
                     TEXT + "\nrecipe 1 a to by h" * 8, TEXT + "\nrecipe", "kinds a\n\nhands\nx"]:
            with self.assertRaises(NoText) as told:
                Desk(text)
            with self.assertRaises(NoText) as read:
                read_works(text)
            self.assertEqual(told.exception.line, read.exception.line)

    def test_wrong(self):
        desk = self.desk()
        for thing in any_values() + [b"works", ["works"], 7, None, True]:
            if not isinstance(thing, str):
                with self.assertRaises(Wrong) as caught:
                    Desk(thing)
                self.assertEqual(caught.exception.place, 0)
                with self.assertRaises(Wrong) as caught:
                    desk.execute(thing)
                self.assertEqual(caught.exception.place, 0)
            else:
                self.no_command(desk, thing)

    def test_each_command(self):
        desk = Desk(TEXT)
        for line, answer in (
            ("names", []), ("held", []), ("duties", []), ("sender s", ["refused NoName"]), ("back", ["refused Nothing"]), ("again", ["refused Nothing"]),
            ("drop s", ["refused NoName"]), ("owe hold s", ["refused NoName"]), ("free 0", ["refused NoIndex"]), ("take 1", ["refused NoIndex"]),
            ("send s = places 2 ; arrow 0 1 1 a with ; arrow 1 0 with 1 h", ["done"]), ("send t = places 1", ["done"]),
            ("send u = places 1 ; arrow 0 0 1 b with 9 h", ["done"]), ("names", ["s", "t", "u"]), ("held", ["s", "t"]),
            ("sender s", ["places 2", "arrow 0 1 1 a with", "arrow 1 0 with 1 h"]), ("sender t", ["places 1"]),
            ("owe hold s", ["done"]), ("owe hold u", ["refused Broken"]), ("owe rooms s 1 0", ["done"]), ("owe rooms s 0 0", ["refused Broken"]),
            ("owe rooms t 9999999999 0", ["refused TooMany"]), ("owe factor s 1 1", ["done"]), ("owe factor s 1 2", ["refused Broken"]),
            ("owe factor u 1000000 1", ["refused Broken"]), ("duties", ["hold s", "rooms s 1 0", "factor s 1 1"]), ("drop s", ["refused Broken"]),
            ("take 0", ["refused Broken"]), ("add recipe 2 a 1 b to by h", ["done"]), ("take 1", ["done"]), ("free 1", ["done"]), ("free 2", ["refused NoIndex"]),
            ("duties", ["hold s", "factor s 1 1"]), ("back", ["done"]), ("duties", ["hold s", "rooms s 1 0", "factor s 1 1"]), ("again", ["done"]),
            ("again", ["refused Nothing"]), ("free 0", ["done"]), ("free 0", ["done"]), ("drop s", ["done"]), ("names", ["t", "u"]), ("sender s", ["refused NoName"]),
            ("send to = places 1", ["done"]), ("names", ["t", "to", "u"]), ("works", TEXT.split("\n")), ("take 0", ["done"]), ("works", TEXT.split("\n")[:2]),
        ):
            self.assertEqual(desk.execute(line), answer, line)

    def test_loosely_written(self):
        desk = Desk(TEXT)
        self.assertEqual(desk.execute("   send  s   =  places 1   ;   arrow 0 0   1 b 2 a   with 1 h  "), ["done"])
        self.assertEqual(desk.execute(" sender   s "), ["places 1", "arrow 0 0 2 a 1 b with 1 h"])
        self.assertEqual(desk.execute("  add   recipe 1 a  2 b to  by h "), ["done"])
        self.assertEqual(desk.execute("works")[-1], "recipe 1 a 2 b to by h")
        for line in (" names ", "  held", "duties  ", "   works", "  back ", " again ", "  owe  factor  s  3  1 ", " free  0", " take  1 ", " drop  s "):
            desk.execute(line)

    def test_no_commands(self):
        desk = self.desk("send s = places 1 ; arrow 0 0 1 a with 1 h", "owe hold s", "add recipe 1 b to", "back")
        for line in (
            "", " ", "\n", "x", "Works", "WORKS", "works works", "works s", "work", "names s", "held s", "duties 0", "back 1", "again again", "back\n", "\nworks",
            "works\n", "works #", "#works", "# works", "works # all", "works#", "names;", "works ; names", "sender", "sender s s", "sender S", "sender 0",
            "sender abcdefg", "sender s#", "drop", "drop s s", "drop S", "drop 1", "drop =", "free", "free 00", "free 01", "free -1", "free +1", "free 1 1", "free s",
            "free 12345678901", "free 1.0", "free \u0661", "take", "take 0 0", "take s", "take -0", "take 0#", "take 12345678901", "owe", "owe s", "owe hold",
            "owe hold S", "owe hold s s", "owe hold s 0", "owe held s", "owe rooms", "owe rooms s", "owe rooms s 0", "owe rooms s 0 0 0", "owe rooms s a b",
            "owe rooms s 0 -1", "owe rooms s 0 00", "owe rooms s 0 12345678901", "owe rooms 0 0 s", "owe factor s", "owe factor s 1", "owe factor s 1 1 1",
            "owe factor s 2 2", "owe factor s 0 1", "owe factor s 1 0", "owe factor s 0 0", "owe factor s -1 1", "owe factor s 1 2 ;", "owe factor 1 2 s", "owe (hold,s)",
            "add", "add 1 b to", "add recipe", "add recipe to 1 b", "add recipe 1 b", "add recipe 1 b to by", "add recipe 1 b to by k", "add recipe 1 b to 1 a",
            "add recipe 1 c to", "add recipe 0 b to", "add recipe 1 b 1 b to", "add recipe 1 b to by h h", "add recipe b 1 to", "add recipe 01 b to", "add recipe 1 b to #",
            "add recipe 1 b to ; recipe 1 b to", "add add recipe 1 b to", "recipe 1 b to", "add recipe 1 b to\n", "add recipe 12345678901 b to", "add recipe 1 a to 1 a",
        ):
            self.no_command(desk, line)

    def test_no_commands_of_send(self):
        desk = self.desk("send s = places 1 ; arrow 0 0 1 a with 1 h", "owe hold s")
        for line in (
            "send", "send s", "send s =", "send s = ;", "send s places 1", "send = places 1", "send s = = places 1", "send S = places 1", "send abcdefg = places 1",
            "send s t = places 1", "send s =places 1", "send s= places 1", "send s = places", "send s = places 0", "send s = places 1 1", "send s = places 01",
            "send s = places one", "send s = places 12345678901", "send s = arrow 0 0 with", "send s = ; places 1", "send s = places 1 ;", "send s = places 1 ; ;",
            "send s = places 1 ; ; arrow 0 0 with", "send s = places 1; arrow 0 0 with", "send s = places 1 ;arrow 0 0 with", "send s = places 1 arrow 0 0 with",
            "send s = places 1 , arrow 0 0 with", "send s = places 1 ; arrow 0 0", "send s = places 1 ; arrow 0 1 with", "send s = places 1 ; arrow 1 0 with",
            "send s = places 1 ; arrow 0 with", "send s = places 1 ; arrow 0 0 1 with", "send s = places 1 ; arrow 0 0 a with", "send s = places 1 ; arrow 0 0 1 c with",
            "send s = places 1 ; arrow 0 0 1 h with", "send s = places 1 ; arrow 0 0 with 1 a", "send s = places 1 ; arrow 0 0 0 a with", "send s = places 1 ; arrow 0 0 1 a 1 a with",
            "send s = places 1 ; arrow 0 0 with 1 h 1 h", "send s = places 1 ; arrow 0 0 with with", "send s = places 1 ; arrow 0 0 1 a with 1 h h",
            "send s = places 1 ; places 1", "send s = places 1 ; run", "send s = places 1\n", "send s = places 1 \n arrow 0 0 with", "send s = places 1 # one",
            "send s = places 1 ; arrow 0 0 with # none", "send s = places 1 ; # none", "send s = kinds a b", "send s = places 1 ; arrow 0 0 with ; x",
            "send s = places 1 ; arrow 0 0 with ; arrow 0 2 with",
        ):
            self.no_command(desk, line)

    def test_numbers(self):
        desk = self.desk("send s = places 9999999999 ; arrow 0 9999999998 9999999999 a with 1 h")
        self.assertEqual(desk.execute("sender s"), ["places 9999999999", "arrow 0 9999999998 9999999999 a with 1 h"])
        self.assertEqual([desk.execute("free 9999999999"), desk.execute("take 9999999999")], [["refused NoIndex"]] * 2)
        self.assertEqual(desk.execute("add recipe 9999999999 a to 9999999999 b"), ["done"])
        self.assertEqual(desk.execute("works")[-1], "recipe 9999999999 a to 9999999999 b")

    def test_a_ninth_recipe_is_one(self):
        desk = self.desk(*["add recipe 1 b to"] * 7)
        self.assertEqual(desk.execute("add recipe 1 b to"), ["refused TooMany"])
        self.no_command(desk, "add recipe 1 b to 1 a")
        self.assertEqual(len(desk.execute("works")), 10)

    def test_words_as_names(self):
        desk = Desk("kinds to by\nhands with kinds")
        self.assertEqual(desk.execute("send add = places 1 ; arrow 0 0 1 to 2 by with 3 kinds 1 with"), ["done"])
        self.assertEqual(desk.execute("add recipe 1 to 1 by to by with"), ["done"])
        self.assertEqual(desk.execute("add recipe 1 to to 1 by by kinds"), ["done"])
        self.assertEqual(desk.execute("sender add"), ["places 1", "arrow 0 0 1 to 2 by with 1 with 3 kinds"])
        self.assertEqual(desk.execute("works")[2:], ["recipe 1 to 1 by to by with", "recipe 1 to to 1 by by kinds"])
        self.assertEqual([desk.execute("send hold = places 1"), desk.execute("owe hold hold"), desk.execute("duties")], [["done"], ["done"], ["hold hold"]])

    def test_the_book_is_a_twin(self):
        desk = self.desk("send s = places 1 ; arrow 0 0 1 a with 1 h", "owe hold s", "back")
        book = desk.book()
        self.assertIsInstance(book, Book)
        self.assertEqual([book.senders(), book.duties()], [{"s": (1, ((0, 0, (1, 0), (1,)),))}, []])
        book.again()
        self.assertEqual([book.duties(), desk.execute("duties")], [[("hold", "s")], []])
        book.back()
        book.back()
        self.assertEqual([book.senders(), desk.execute("names")], [{}, ["s"]])
        self.assertEqual([desk.execute("again"), book.duties(), desk.book() == book], [["done"], [], False])
        with self.assertRaises(NoName):
            book.drop("s")

    def test_what_is_returned_is_new(self):
        desk = self.desk("send s = places 1", "owe hold s")
        for line in ("works", "names", "held", "duties", "sender s", "sender t", "back", "again"):
            before = desk.execute(line)
            before.append("x")
            self.assertNotIn("x", desk.execute(line))

    def test_a_desk_leads_a_book(self):
        rng = seeded(4801)
        seen = {}
        for _ in range(8):
            works = random_works(rng, kinds=2, hands=1, recipes=3, most=2)
            desk, book = Desk(show_works(works)), Book(works)
            for _ in range(150):
                line, call = self.random_line(rng, works)
                try:
                    call(book)
                    told = ["done"]
                except HeapError as error:
                    told = ["refused " + type(error).__name__]
                self.assertEqual(desk.execute(line), told, line)
                seen[told[0]] = True
                self.assertTrue(desk.book() == book)
                self.assertEqual(desk.execute("works"), show_works(book.works()).split("\n"))
                self.assertEqual([desk.execute("names"), desk.execute("held")], [list(book.senders()), book.held()])
                self.assertEqual(desk.execute("duties"), [" ".join(re.findall(r"\w+", str(duty))) for duty in book.duties()])
                for name, sender in book.senders().items():
                    self.assertEqual(desk.execute("sender " + name), show_sender(works, sender).split("\n"))
        self.assertEqual(sorted(seen), ["done"] + ["refused " + name for name in ("Broken", "NoIndex", "NoName", "Nothing", "TooMany")])

    def random_line(self, rng, works):
        name, number = rng.choice("stu"), rng.randint(0, 9)
        sender = random_sender(rng, works, rng.randint(1, 2), 2)
        recipe = random_recipe(rng, 2, works[1], 2)
        rooms = (rng.randint(0, 2), rng.randint(0, 9))
        return rng.choice((
            ("send " + name + " = " + " ; ".join(show_sender(works, sender).split("\n")), lambda book: book.send(name, sender)),
            ("add " + show_works((works[0], works[1], (recipe,))).split("\n")[2], lambda book: book.add(recipe)),
            ("drop " + name, lambda book: book.drop(name)), ("take " + str(number), lambda book: book.take(number)),
            ("free " + str(number), lambda book: book.free(number)), ("owe hold " + name, lambda book: book.owe(("hold", name))),
            ("owe rooms " + name + " " + " ".join(map(str, rooms)), lambda book: book.owe(("rooms", name, rooms))),
            ("owe factor " + name + " 3 2", lambda book: book.owe(("factor", name, (3, 2)))),
            ("back", lambda book: book.back()), ("again", lambda book: book.again()),
        ))

    def test_up_to_the_bounds(self):
        desk = Desk(show_works(FULL))
        sender = random_sender(seeded(4802), FULL, 10, 24)
        self.assertEqual(desk.execute("send s = " + " ; ".join(show_sender(FULL, sender).split("\n"))), ["done"])
        self.assertEqual(read_sender(FULL, "\n".join(desk.execute("sender s"))), sender)
        self.assertEqual(desk.execute("send s = places 1" + " ; arrow 0 0 with" * 700), ["done"])
        self.assertEqual(len(desk.execute("sender s")), 701)
        self.assertEqual(Desk(show_works(WORKS)).execute("send s = " + " ; ".join(show_sender(WORKS, SENDER).split("\n"))), ["done"])


if __name__ == "__main__":
    unittest.main()
