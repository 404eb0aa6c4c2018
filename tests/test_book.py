"""[47]: a Book, its changes and its duties."""

import copy
import unittest

from neverheaps import errors
from neverheaps.book import Book
from neverheaps.errors import Broken, NoDuty, NoIndex, NoName, Nothing, TooMany, Wrong
from neverheaps.factor import least_factor
from neverheaps.held import holds
from neverheaps.tables import are_enough
from tests.samples import BARE, FULL, MANY, SENDER, WORKS, any_values, circle, otherwise, random_recipe, seeded
from tests.test_held import weak_sender

TWO = (("a", "b"), ("h",), (((1, 0), (0, 0), "h"), ((0, 1), (0, 0), "h")))
LOOP = (1, ((0, 0, (1, 0), (1,)),))
WORK_A, WORK_B = TWO[2]
STATE = ("works", "senders", "duties", "held")


def state(book):
    return tuple(getattr(book, name)() for name in STATE)


class Model:
    """A Book told slowly: all states are kept, and all duties asked by the functions of the points."""

    def __init__(self, works):
        self.states = [(works, {}, [])]
        self.at = 0

    def kept(self, works, senders, duty):
        sender = senders[duty[1]]
        if duty[0] == "hold":
            return holds(works, sender)
        if duty[0] == "rooms":
            return are_enough(works, sender, duty[2])
        try:
            num, den = least_factor(works, sender)
        except errors.NeverHelps:
            return False
        return num * duty[2][1] <= duty[2][0] * den

    def first_broken(self, works, senders, duties):
        for duty in duties:
            if not self.kept(works, senders, duty):
                raise Broken(duty)

    def go_on(self, *new):
        self.states[self.at + 1:] = [new]
        self.at += 1

    def call(self, name, *given):
        works, senders, duties = copy.deepcopy(self.states[self.at])
        if name == "send":
            senders[given[0]] = given[1]
            self.first_broken(works, senders, [duty for duty in duties if duty[1] == given[0]])
            return self.go_on(works, senders, duties)
        if name == "drop":
            if given[0] not in senders:
                raise NoName(given[0])
            for duty in duties:
                if duty[1] == given[0]:
                    raise Broken(duty)
            gone = senders.pop(given[0])
            self.go_on(works, senders, duties)
            return gone
        if name == "owe":
            if given[0][1] not in senders:
                raise NoName(given[0][1])
            self.first_broken(works, senders, [given[0]])
            return self.go_on(works, senders, duties + [given[0]])
        if name == "free":
            if not 0 <= given[0] < len(duties):
                raise NoIndex(given[0])
            gone = duties.pop(given[0])
            self.go_on(works, senders, duties)
            return gone
        if name == "add":
            if len(works[2]) == 8:
                raise TooMany(8)
            return self.go_on((works[0], works[1], works[2] + (given[0],)), senders, duties)
        if name == "take":
            if not 0 <= given[0] < len(works[2]):
                raise NoIndex(given[0])
            changed = (works[0], works[1], works[2][:given[0]] + works[2][given[0] + 1:])
            self.first_broken(changed, senders, duties)
            self.go_on(changed, senders, duties)
            return works[2][given[0]]
        step = -1 if name == "back" else 1
        if not 0 <= self.at + step < len(self.states):
            raise Nothing()
        self.at += step
        return None

    def state(self):
        works, senders, duties = self.states[self.at]
        return works, senders, duties, sorted(name for name in senders if holds(works, senders[name]))


class BookCase(unittest.TestCase):

    def refused(self, book, error, fields, name, *given):
        """A call that raises this very error, and changes nothing."""
        before, twin = state(book), book.twin()
        with self.assertRaises(error) as caught:
            getattr(book, name)(*given)
        self.assertIs(type(caught.exception), error)
        self.assertEqual(list(caught.exception.__dict__), list(fields))
        for field, value in fields.items():
            told = getattr(caught.exception, field)
            self.assertTrue(told is value or type(told) is type(value) and type(value) in (int, tuple) and told == value, (told, value))
        self.assertEqual(state(book), before)
        self.assertTrue(book == twin)

    def book(self, works=TWO, senders=(), duties=()):
        book = Book(works)
        for name, sender in senders:
            self.assertIsNone(book.send(name, sender))
        for duty in duties:
            self.assertIsNone(book.owe(duty))
        return book


class BookTest(BookCase):

    def test_the_example(self):
        book = self.book(TWO, [("s", LOOP)], [("hold", "s"), ("rooms", "s", (0, 0))])
        self.assertEqual([book.take(1), book.works()[2], book.held(), book.is_kept(("factor", "s", (1, 2)))],
                         [WORK_B, (WORK_A,), ["s"], False])

    def test_at_first(self):
        for works in (TWO, BARE, FULL):
            book = Book(works)
            self.assertEqual(state(book), (works, {}, [], []))
            self.refused(book, Nothing, {}, "back")
            self.refused(book, Nothing, {}, "again")

    def test_wrong(self):
        for thing in list(otherwise(TWO)) + [value for value in any_values() if value not in (WORKS, (("a",), ("h",), ()))]:
            with self.assertRaises(Wrong) as caught:
                Book(thing)
            self.assertEqual(caught.exception.place, 0)
        book = self.book(TWO, [("s", LOOP)], [("hold", "s")])
        for name in ["", "A", "abcdefg", "s ", "s\n", None, True, 0, ("s",), ["s"]] + any_values():
            if name not in ("a", "h", "to"):
                self.refused(book, Wrong, {"place": 0}, "send", name, LOOP)
                self.refused(book, Wrong, {"place": 0}, "send", name, None)
        for sender in list(otherwise(LOOP)) + any_values():
            self.refused(book, Wrong, {"place": 1}, "send", "s", sender)
            self.refused(book, Wrong, {"place": 1}, "send", "new", sender)
        # Ahead of what breaks a duty.
        self.refused(book, Wrong, {"place": 1}, "send", "s", (1, ((0, 0, (9, 0), (1, 1)),)))
        for recipe in list(otherwise(WORK_A)) + any_values():
            self.refused(book, Wrong, {"place": 0}, "add", recipe)
        for recipe in (((0, 0), (0, 1), "h"), ((0, 1), (1, 0), "h"), ((1, 0), (1, 0), None), ((1, 0), (0, 0), "k"), ((1, 0), (0, 0))):
            self.refused(book, Wrong, {"place": 0}, "add", recipe)

    def test_what_is_returned_is_new(self):
        book = self.book(TWO, [("t", LOOP), ("s", LOOP), ("abc", LOOP)], [("hold", "t"), ("hold", "s")])
        self.assertEqual([list(book.senders()), book.held()], [["abc", "s", "t"], ["abc", "s", "t"]])
        before = state(book)
        book.senders().clear()
        book.duties().clear()
        book.held().clear()
        self.assertEqual(state(book), before)

    def test_send(self):
        book = self.book(TWO, [("s", LOOP)])
        other = (1, ((0, 0, (2, 0), (1,)),))
        self.assertIsNone(book.send("s", other))
        self.assertEqual([book.senders(), book.held()], [{"s": other}, []])
        book.send("kinds", (3, ()))
        self.assertEqual([book.senders(), book.held()], [{"kinds": (3, ()), "s": other}, ["kinds"]])

    def test_send_asks_the_duties_that_name_it(self):
        duties = [("rooms", "s", (1, 0)), ("hold", "s"), ("factor", "s", (1, 1)), ("hold", "t")]
        book = self.book(TWO, [("s", LOOP), ("t", LOOP)], duties)
        held = (2, ((0, 1, (2, 0), (0,)), (1, 0, (0, 0), (2,))))
        self.refused(book, Broken, {"duty": duties[0]}, "send", "s", held)
        self.refused(book, Broken, {"duty": duties[3]}, "send", "t", (1, ((0, 0, (1, 0), (0,)),)))
        self.assertEqual(book.free(0), duties[0])
        book.send("s", held)
        self.refused(book, Broken, {"duty": duties[1]}, "send", "s", (1, ((0, 0, (2, 0), (1,)),)))
        book.free(0)
        self.refused(book, Broken, {"duty": duties[2]}, "send", "s", (1, ((0, 0, (2, 0), (1,)),)))
        # Never helped: not kept.
        self.refused(book, Broken, {"duty": duties[2]}, "send", "s", (1, ((0, 0, (1, 0), (0,)),)))
        book.send("other", (1, ((0, 0, (9, 0), (0,)),)))

    def test_drop(self):
        duties = [("hold", "t"), ("rooms", "s", (1, 0)), ("hold", "s")]
        book = self.book(TWO, [("s", LOOP), ("t", LOOP), ("u", (2, ()))], duties)
        for name in ["x", "", "S", None, True, 0, ["s"], ("s",), {"s": 1}] + any_values():
            self.refused(book, NoName, {"name": name}, "drop", name)
        self.refused(book, Broken, {"duty": duties[1]}, "drop", "s")
        self.refused(book, Broken, {"duty": duties[0]}, "drop", "t")
        self.assertEqual([book.drop("u"), list(book.senders())], [(2, ()), ["s", "t"]])
        self.refused(book, NoName, {"name": "u"}, "drop", "u")
        book.free(1)
        self.refused(book, Broken, {"duty": duties[2]}, "drop", "s")
        book.free(1)
        self.assertEqual([book.drop("s"), book.senders(), book.duties()], [LOOP, {"t": LOOP}, duties[:1]])

    def test_drop_asks_no_duty(self):
        # It is broken whether it is kept or not.
        book = self.book(TWO, [("s", (1, ()))], [("rooms", "s", (0, 0))])
        for _ in range(6):
            book.add(WORK_A)
        self.refused(book, Broken, {"duty": ("rooms", "s", (0, 0))}, "drop", "s")

    def test_owe(self):
        book = self.book(TWO, [("s", LOOP), ("t", (1, ((0, 0, (1, 1), (1,)),)))])
        for duty in (("hold", "s"), ("rooms", "s", (0, 0)), ("rooms", "s", (9, 9)), ("factor", "s", (1, 1)), ("factor", "s", (3, 2)), ("factor", "t", (2, 1)),
                     ("hold", "s")):
            self.assertIs(book.is_kept(duty), True)
            self.assertIsNone(book.owe(duty))
            self.assertEqual(book.duties()[-1], duty)
        self.assertEqual(len(book.duties()), 7)
        for duty in (("hold", "t"), ("rooms", "t", (0, 0)), ("rooms", "t", (9, 9)), ("factor", "s", (9, 10)), ("factor", "t", (19, 10))):
            self.assertIs(book.is_kept(duty), False)
            self.refused(book, Broken, {"duty": duty}, "owe", duty)
        for duty in (("hold", "x"), ("rooms", "x", (0, 0)), ("factor", "hold", (1, 2))):
            self.refused(book, NoName, {"name": duty[1]}, "owe", duty)

    def test_no_duty(self):
        book = self.book(TWO, [("s", LOOP)])
        things = [(), ("hold",), ("hold", "s", ()), ("hold", "s", (0, 0)), ("hold", ""), ("hold", "S"), ("held", "s"), ("rooms", "s"), ("rooms", "s", (0,)),
                  ("rooms", "s", (0, 0, 0)), ("rooms", "s", (0, -1)), ("rooms", "s", (True, 0)), ("rooms", "s", [0, 0]), ("rooms", "s", 0, 0),
                  ("factor", "s"), ("factor", "s", (0, 1)), ("factor", "s", (-1, 1)), ("factor", "s", (2, 2)), ("factor", "s", (1, 0)), ("factor", "s", (1, -1)),
                  ("factor", "s", (1,)), ("factor", "s", 1), ("factor", "s", (1, 1), ()), ("factor", "s", [1, 1]), ("factor", "s", (True, 1)),
                  ["hold", "s"], "hold s", ("s", "hold"), ("hold", ("s",)), (("hold",), "s"), ("hold", 0), (0, "s"), None, True]
        things += [thing for duty in (("hold", "s"), ("rooms", "s", (0, 0)), ("factor", "s", (1, 1))) for thing in otherwise(duty)]
        for thing in things + any_values():
            self.refused(book, NoDuty, {"duty": thing}, "owe", thing)
        # Rooms are those of this works.
        self.refused(self.book(BARE, [("s", (1, ()))]), NoDuty, {"duty": ("rooms", "s", (0, 0))}, "owe", ("rooms", "s", (0, 0)))

    def test_free(self):
        duties = [("hold", "s"), ("rooms", "s", (0, 0)), ("factor", "s", (1, 1))]
        book = self.book(TWO, [("s", LOOP)], duties)
        for index in [3, -1, True, False, None, "0", (0,), [0], 10 ** 39] + any_values():
            if type(index) is not int or not 0 <= index < 3:
                self.refused(book, NoIndex, {"index": index}, "free", index)
        self.assertEqual([book.free(1), book.duties(), book.free(1), book.free(0), book.duties()],
                         [duties[1], [duties[0], duties[2]], duties[2], duties[0], []])
        self.refused(book, NoIndex, {"index": 0}, "free", 0)

    def test_add(self):
        book = self.book(TWO)
        for many in range(3, 9):
            self.assertIsNone(book.add(((many % 4 + 1, 0), (0, 2), None)))
            self.assertEqual(len(book.works()[2]), many)
        self.assertEqual(book.works()[2][-1], ((1, 0), (0, 2), None))
        self.refused(book, TooMany, {"most": 8}, "add", WORK_A)
        self.refused(book, Wrong, {"place": 0}, "add", ((0, 0), (0, 0), None))

    def test_take(self):
        duties = [("factor", "t", (1, 1)), ("hold", "s"), ("rooms", "s", (0, 0))]
        book = self.book(TWO, [("s", LOOP), ("t", (1, ((0, 0, (0, 1), (1,)),)))], duties)
        for index in [2, -1, True, False, None, "0", (0,), [0], 10 ** 39] + any_values():
            if type(index) is not int or not 0 <= index < 2:
                self.refused(book, NoIndex, {"index": index}, "take", index)
        self.refused(book, Broken, {"duty": duties[1]}, "take", 0)
        self.refused(book, Broken, {"duty": duties[0]}, "take", 1)
        book.free(0)
        self.assertEqual([book.take(1), book.works()[2]], [WORK_B, (WORK_A,)])
        book.add(WORK_A)
        self.assertEqual([book.take(0), book.works()[2]], [WORK_A, (WORK_A,)])
        self.refused(book, Broken, {"duty": duties[1]}, "take", 0)
        book.free(0)
        self.refused(book, Broken, {"duty": duties[2]}, "take", 0)
        book.free(0)
        self.assertEqual([book.take(0), book.works()[2], book.held()], [WORK_A, (), []])
        self.refused(book, NoIndex, {"index": 0}, "take", 0)


class TooManyTest(BookCase):

    def test_send_of_what_is_asked_in_vain(self):
        places = (3001, ((0, 0, (1, 0), (0,)),))
        hold, rooms = ("hold", "s"), ("rooms", "s", (0, 0))
        self.refused(self.book(TWO, [("s", LOOP)], [hold, rooms]), Broken, {"duty": hold}, "send", "s", places)
        self.refused(self.book(TWO, [("s", LOOP)], [rooms, hold]), TooMany, {"most": 3000}, "send", "s", places)
        self.refused(self.book(TWO, [("s", LOOP)], [rooms]), TooMany, {"most": 3000}, "send", "s", (3001, ()))
        self.assertIsNone(self.book(TWO, [("s", LOOP)], [hold]).send("s", (3001, ())))
        rings = circle(MANY, ((1, 0), (0,)), 1)
        factor = ("factor", "s", (1, 1))
        self.refused(self.book(TWO, [("s", LOOP)], [factor, hold]), TooMany, {"most": 2000}, "send", "s", rings)
        self.refused(self.book(TWO, [("s", LOOP)], [hold, factor]), Broken, {"duty": hold}, "send", "s", rings)
        self.refused(self.book(TWO, [("s", LOOP)], [hold, rooms, factor]), TooMany, {"most": 2000}, "send", "s",
                     (rings[0], tuple(arrow[:2] + ((0, 0), (0,)) for arrow in rings[1])))
        # Duties of others are not asked.
        book = self.book(TWO, [("s", LOOP), ("t", LOOP)], [factor, ("rooms", "t", (0, 0))])
        self.refused(book, TooMany, {"most": 3000}, "send", "t", places)

    def test_owe_and_is_kept(self):
        book = self.book(TWO, [("s", (1, ())), ("t", circle(MANY, ((0, 0), (0,)), 1))])
        for duty in (("rooms", "s", (54, 54)), ("rooms", "s", (10 ** 9, 10 ** 9)), ("rooms", "s", (3000, 0))):
            self.refused(book, TooMany, {"most": 3000}, "owe", duty)
            self.refused(book, TooMany, {"most": 3000}, "is_kept", duty)
        self.refused(book, TooMany, {"most": 2000}, "owe", ("factor", "t", (1, 1)))
        self.refused(book, TooMany, {"most": 2000}, "is_kept", ("factor", "t", (1, 1)))
        self.assertIsNone(book.owe(("hold", "t")))
        self.assertIsNone(book.owe(("rooms", "s", (2999, 0))))
        # A name that is missing is told ahead.
        self.refused(book, NoName, {"name": "x"}, "owe", ("rooms", "x", (10 ** 9, 10 ** 9)))

    def test_take_asks_all_duties_in_their_order(self):
        works = (("a", "b", "c"), ("h",), (((1, 0, 0), (0, 0, 0), "h"),))
        once, loop = (2, ((0, 1, (9, 9, 9), (0,)),)), (1, ((0, 0, (1, 0, 0), (1,)),))
        rooms, hold = ("rooms", "s", (9, 9, 9)), ("hold", "t")
        further = [((0, 1, 0), (0, 0, 0), None), ((0, 0, 1), (0, 0, 0), None), ((1, 1, 0), (0, 0, 0), None), ((1, 0, 1), (0, 0, 0), None),
                   ((1, 1, 1), (0, 0, 0), None)]
        for duties in ([rooms, hold], [hold, rooms]):
            book = self.book(works, [("s", once), ("t", loop)], duties)
            self.refused(book, Broken, {"duty": hold}, "take", 0)
            self.assertIs(book.is_kept(rooms), True)
            # Adding asks no duties; with these recipes there are too many ends.
            for recipe in further:
                book.add(recipe)
            self.refused(book, TooMany, {"most": 5000}, "is_kept", rooms)
            # Without the first recipe t is not held, without another one it is.
            if duties[0] == rooms:
                self.refused(book, TooMany, {"most": 5000}, "take", 0)
            else:
                self.refused(book, Broken, {"duty": hold}, "take", 0)
            self.refused(book, TooMany, {"most": 5000}, "take", 5)


class ChangesTest(BookCase):

    def test_back_and_again(self):
        book = self.book(TWO)
        states = [state(book)]
        for name, *given in (("send", "s", LOOP), ("owe", ("hold", "s")), ("send", "t", (2, ())), ("add", WORK_A), ("take", 0), ("drop", "t"), ("free", 0),
                             ("drop", "s"), ("take", 0)):
            getattr(book, name)(*given)
            states.append(state(book))
        for turn in range(3):
            for told in states[-2::-1]:
                self.assertIsNone(book.back())
                self.assertEqual(state(book), told)
            self.refused(book, Nothing, {}, "back")
            for told in states[1:]:
                self.assertIsNone(book.again())
                self.assertEqual(state(book), told)
            self.refused(book, Nothing, {}, "again")

    def test_changes_that_leave_all_as_it_was(self):
        book = self.book(TWO, [("s", LOOP)], [("hold", "s")])
        self.assertIsNone(book.send("s", LOOP))
        book.back()
        self.assertEqual([book.duties(), book.senders()], [[("hold", "s")], {"s": LOOP}])
        book.back()
        self.assertEqual(book.duties(), [])
        book.again()
        book.again()
        self.refused(book, Nothing, {}, "again")
        book.add(WORK_A)
        book.take(2)
        self.assertEqual(book.works(), TWO)
        book.back()
        self.assertEqual(book.works()[2], TWO[2] + (WORK_A,))

    def test_a_change_makes_an_end_of_again(self):
        book = self.book(TWO, [("s", LOOP)])
        book.back()
        # Neither a question nor a refused call does.
        book.held()
        book.twin()
        self.refused(book, NoName, {"name": "s"}, "drop", "s")
        self.refused(book, NoDuty, {"duty": None}, "owe", None)
        book.again()
        book.back()
        book.add(WORK_A)
        self.refused(book, Nothing, {}, "again")
        book.back()
        book.again()
        self.assertEqual(len(book.works()[2]), 3)

    def test_back_asks_no_duties(self):
        book = self.book(TWO, [("s", LOOP)], [("hold", "s")])
        book.free(0)
        book.take(0)
        book.back()
        book.back()
        self.assertEqual(book.duties(), [("hold", "s")])
        self.refused(book, Broken, {"duty": ("hold", "s")}, "take", 0)

    def test_twins(self):
        book = self.book(TWO, [("s", LOOP)], [("hold", "s")])
        book.add(WORK_A)
        book.back()
        twin = book.twin()
        self.assertIsInstance(twin, Book)
        self.assertEqual(state(twin), state(book))
        before = state(book)
        twin.again()
        self.assertEqual([len(twin.works()[2]), state(book)], [3, before])
        twin.back()
        twin.back()
        twin.back()
        self.refused(twin, Nothing, {}, "back")
        self.assertEqual([twin.senders(), state(book)], [{}, before])
        book.again()
        book.send("t", LOOP)
        self.assertEqual(twin.senders(), {})
        twin.again()
        twin.again()
        twin.again()
        self.refused(twin, Nothing, {}, "again")
        self.assertEqual(list(twin.senders()), ["s"])

    def test_equality(self):
        book = self.book(TWO, [("s", LOOP), ("t", (2, ()))], [("hold", "s"), ("hold", "t")])
        same = self.book(TWO, [("t", LOOP), ("s", (2, ()))])
        same.send("s", LOOP)
        same.send("t", (2, ()))
        self.assertFalse(book == same)
        for duty in book.duties():
            same.owe(duty)
        self.assertTrue(book == same and same == book and not book != same)
        self.assertTrue(book == book.twin())
        # What can be taken back does not count.
        same.add(WORK_A)
        self.assertTrue(book != same)
        same.back()
        self.assertTrue(book == same)
        same.free(0)
        same.owe(("hold", "s"))
        self.assertFalse(book == same)
        self.assertFalse(Book(TWO) == Book((TWO[0], TWO[1], TWO[2][::-1])))
        self.assertTrue(Book(TWO) == Book(TWO))
        for thing in any_values() + [TWO, (TWO, {}, ()), state(book)]:
            self.assertIs(book == thing, False)
            self.assertIs(thing == book, False)
            self.assertIs(book != thing, True)

    def test_long_rows_of_changes(self):
        rng = seeded(4701)
        raised, done = {}, {}
        for _ in range(12):
            works = (("a", "b"), ("h", "k"), tuple(random_recipe(rng, 2, ("h", "k"), 2) for _ in range(rng.randint(2, 6))))
            book, model = Book(works), Model(works)
            twins = []
            for _ in range(250):
                call = self.random_call(rng, works)
                told = self.answer(lambda: getattr(book, call[0])(*call[1:]))
                self.assertEqual(told, self.answer(lambda: model.call(*call)), call)
                self.assertEqual(state(book), model.state())
                kind = (call[0], told[0].__name__ if isinstance(told[0], type) else "")
                (raised if kind[1] else done)[kind] = 1
                if rng.random() < 0.05:
                    twins.append((book.twin(), state(book)))
                for duty in book.duties():
                    self.assertIs(book.is_kept(duty), True)
            for twin, told in twins:
                self.assertEqual(state(twin), told)
                self.assertIs(twin == book, told[:3] == state(book)[:3])
        self.assertEqual(len(done), 8)
        for kind in (("send", "Broken"), ("drop", "Broken"), ("drop", "NoName"), ("owe", "Broken"), ("owe", "NoName"), ("free", "NoIndex"),
                     ("add", "TooMany"), ("take", "Broken"), ("take", "NoIndex"), ("back", "Nothing"), ("again", "Nothing")):
            self.assertIn(kind, raised)

    def answer(self, call):
        try:
            return (call(),)
        except errors.HeapError as error:
            return type(error), error.__dict__

    def random_call(self, rng, works):
        name = rng.choice(("send",) * 4 + ("drop", "owe", "owe", "owe", "free", "add", "add", "take", "take", "back", "again", "again"))
        who = rng.choice("stu")
        if name == "send":
            return name, who, weak_sender(rng, works, rng.randint(1, 2), rng.randint(0, 2))
        if name == "drop":
            return name, who
        if name == "owe":
            return name, rng.choice((("hold", who), ("rooms", who, (rng.randint(0, 3), rng.randint(0, 3))), ("factor", who, rng.choice(((1, 1), (1, 3), (5, 2))))))
        if name in ("free", "take"):
            return name, rng.randint(0, 4)
        return (name, random_recipe(rng, 2, works[1], 2)) if name == "add" else (name,)

    def test_works_up_to_the_bounds(self):
        book = self.book(FULL, [("s", (10, ()))])
        rng = seeded(4702)
        for turn in range(300):
            book.send("s", weak_sender(rng, FULL, 10, 24))
        for turn in range(301):
            book.back()
        self.assertEqual(state(book), (FULL, {}, [], []))
        self.assertEqual(self.book(WORKS, [("s", SENDER)]).held(), ["s"] if holds(WORKS, SENDER) else [])


if __name__ == "__main__":
    unittest.main()
