"""[14]: texts, word by word."""

import unittest

from neverheaps.texts import show_run, show_sender, show_works
from tests.samples import BARE, FULL, RINGS, SENDER, WORDY, WORKS


class TextsTest(unittest.TestCase):

    def test_works(self):
        self.assertEqual(show_works(WORKS), "kinds a b c\nhands h\nrecipe 2 a to 1 b by h\nrecipe 1 b 1 c to")
        self.assertEqual(show_works(BARE), "kinds a\nhands")
        self.assertEqual(
            show_works(WORDY),
            "kinds to by\nhands with kinds\nrecipe 1 to to 2 by by with\nrecipe 3 to 4 by to by kinds\nrecipe 1 by to",
        )
        self.assertEqual(show_works(FULL), (
            "kinds a b c d e\nhands h j k\nrecipe 2 a to 1 b 3 c by h\nrecipe 1 a 4 b to 2 d by j\n"
            "recipe 2 c to 1 d 1 e\nrecipe 1 a 1 c 3 d to 4 e by k\nrecipe 1 e to by k\nrecipe 1 b 2 e to by h\n"
            "recipe 1 b 2 e to by h\nrecipe 4 a 4 b 4 c 4 d 4 e to"
        ))

    def test_sender(self):
        self.assertEqual(show_sender(WORKS, SENDER), "places 2\narrow 0 1 2 a with 1 h\narrow 1 0 1 c with")
        self.assertEqual(show_sender(WORKS, (1, ())), "places 1")
        self.assertEqual(show_sender(BARE, (10, ((9, 3, (0,), ()), (3, 3, (9,), ())))), "places 10\narrow 9 3 with\narrow 3 3 9 a with")
        self.assertEqual(show_sender(WORKS, RINGS).split("\n")[3], "arrow 1 2 9 b with 9 h")
        self.assertEqual(
            show_sender(WORDY, (1, ((0, 0, (1, 2), (3, 4)), (0, 0, (0, 5), (0, 6))))),
            "places 1\narrow 0 0 1 to 2 by with 3 with 4 kinds\narrow 0 0 5 by with 6 kinds",
        )

    def test_run(self):
        self.assertEqual(show_run(()), "run")
        self.assertEqual(show_run((0,)), "run 0")
        self.assertEqual(show_run((0, 12, 3)), "run 0 12 3")


if __name__ == "__main__":
    unittest.main()
