"""book.py: [13], with guarantee (f) of [1]."""

import inspect
import random
import unittest

from fewstamps.book import Book
from fewstamps.carry import is_in_order, known_of, must_carry
from fewstamps.data import is_ahead, is_log
from fewstamps.desk import answers
from fewstamps.errors import Early, InOrder, NoCounter, NoEvent, NoMachine, NoMessage, NotBehind, SameMachine
from fewstamps.shape import gains
from fewstamps.stamps import are_counters, stamp
from fewstamps.told import sheet, tells
from tests.brute import all_rows, most_by, sets_by
from tests.helpers import ahead_pairs, marked_events
from tests.posts import known_at, right_stamp
from tests.test_carry import above, right_surely

METHODS = (
    ("happen", ("name",)), ("mark", ("name", "counter")), ("send", ("name", "other")), ("come", ("number",)),
    ("lose", ("number",)), ("log", ()), ("counters", ()), ("known", ("name",)), ("under_way", ()),
    ("entries", ("number",)), ("tells", ("one", "other")), ("raised", ()), ("twin", ()),
)


class Refused(Exception):
    """What is refused, with the name of the error's class and its values."""


class RightBook:
    """A Book that goes by the document alone, without the package."""

    def __init__(self, names, in_order):
        self.names, self.in_order = names, in_order
        self.done, self.marked, self.rows, self.came = [], [], [], []
        self.sent, self.under_way = [], []

    def need(self, *names):
        for name in names:
            if name not in self.names:
                raise Refused("NoMachine", name)

    def next_of(self, name):
        return name, sum(event[0] == name for event in self.done)

    def log(self, came=(), further=()):
        machines = []
        for name in self.names:
            many = self.next_of(name)[1] + sum(event[0] == name for event in further)
            machines.append((name, many, tuple(sorted(number for one, number in self.marked if one == name))))
        return tuple(machines), tuple(sorted(self.came + list(came)))

    def counters(self):
        return tuple(map(tuple, self.rows))

    def known(self, name):
        self.need(name)
        many = self.next_of(name)[1]
        return right_stamp(self.log(), self.rows, (name, many - 1)) if many else (0,) * len(self.rows)

    def happen(self, name):
        self.need(name)
        event = self.next_of(name)
        self.done.append(event)
        return event

    def mark(self, name, counter):
        self.need(name)
        event = self.next_of(name)
        if counter is not None:
            if counter < 0 or counter > len(self.rows):
                raise Refused("NoCounter", counter)
            pairs = ahead_pairs(self.log(further=[event]))
            if counter < len(self.rows) and (self.rows[counter][-1], event) not in pairs:
                raise Refused("NotBehind", counter)
            self.rows += [[]] * (counter == len(self.rows))
            self.rows[counter] = self.rows[counter] + [event]
        self.done.append(event)
        self.marked.append(event)
        return event

    def send(self, name, other):
        self.need(name, other)
        if name == other:
            raise Refused("SameMachine", name)
        place = self.next_of(name)[1] - 1
        if place < 0:
            raise Refused("NoEvent", (name, 0))
        log, message = self.world((name, place), other)
        entries = above(right_stamp(log, self.rows, (name, place)), right_surely(log, self.rows, message, self.in_order))
        self.sent.append(((name, place), other, entries))
        self.under_way.append(len(self.sent) - 1)
        return len(self.sent) - 1

    def world(self, sent, other):
        """The LOG of [9] for a message that is sent now, and this message."""
        number = self.next_of(other)[1]
        came = []
        for one in self.under_way if self.in_order else []:
            if self.sent[one][0][0] == sent[0] and self.sent[one][1] == other:
                came.append((self.sent[one][0], (other, number + len(came))))
        message = (sent, (other, number + len(came)))
        came.append(message)
        return self.log(came, [come for _, come in came]), message

    def need_under_way(self, number):
        if number not in self.under_way:
            raise Refused("NoMessage", number)

    def come(self, number):
        self.need_under_way(number)
        sent, other, _ = self.sent[number]
        early = [
            one for one in self.under_way
            if one < number and self.sent[one][0][0] == sent[0] and self.sent[one][1] == other
        ]
        if self.in_order and early:
            raise Refused("Early", early[0])
        event = self.happen(other)
        self.under_way.remove(number)
        self.came.append((sent, event))
        return event

    def lose(self, number):
        self.need_under_way(number)
        if self.in_order:
            raise Refused("InOrder")
        self.under_way.remove(number)

    def entries(self, number):
        if not 0 <= number < len(self.sent):
            raise Refused("NoMessage", number)
        return self.sent[number][2]


def raised_by_all(log, order):
    """Which gain grew with each EVENT, by trying all sets of those so far."""
    pairs = ahead_pairs(log)
    before, found = [], []
    for at in range(1, len(order) + 1):
        names = sorted(order[:at])
        rows = all_rows(names, pairs)
        most = [most_by(sets_by(names, rows, many)) for many in range(at + 1)]
        now = [high - low for low, high in zip(most, most[1:])] + [0]
        grown = [i for i, gain in enumerate(now, 1) if gain != (before[i - 1] if i <= len(before) else 0)]
        found.append((order[at - 1], grown[0]))
        before = now
    return found


def drawn_call(rng, right):
    """A call that may be refused, or not."""
    names = list(right.names) + ["nobody"] * (rng.random() < 0.1) or ["nobody"]
    numbers = list(range(-1, len(right.sent) + 1))
    word = rng.choice(("happen", "mark", "mark", "mark", "send", "send", "send", "come", "come", "come", "lose"))
    if word == "happen":
        return word, (rng.choice(names),)
    if word == "mark":
        counter = rng.choice([None, len(right.rows), rng.randint(-1, len(right.rows) + 1), 0, 0])
        return word, (rng.choice(names), counter)
    if word == "send" and rng.random() < 0.6:
        # So that several messages are under way between the same two.
        return word, tuple(names[:2] * 2)[:2]
    if word == "send":
        return word, (rng.choice(names), rng.choice(names))
    under_way = right.under_way if rng.random() < 0.9 else []
    if word == "come" or rng.random() < 0.3:
        return word, (rng.choice(under_way or numbers),)
    return "happen", (rng.choice(names),)


def outcome(book, word, values):
    """What a call gives, or the name and the values of the error that it raises."""
    try:
        return "gives", getattr(book, word)(*values)
    except Refused as refused:
        return refused.args
    except (Early, InOrder, NoCounter, NoEvent, NoMachine, NoMessage, NotBehind, SameMachine) as error:
        return (error.__class__.__name__,) + tuple(vars(error).values())


def state(book):
    """All that can be asked of a Book."""
    log = book.log()
    marks = marked_events(log)
    found = []
    number = 0
    while outcome(book, "entries", (number,))[0] == "gives":
        found.append(book.entries(number))
        number += 1
    return (
        log, book.counters(), [book.known(name) for name, _, _ in log[0]], book.under_way(), found, book.raised(),
        list(book), len(book), [book.tells(one, other) for one in marks for other in marks],
    )


def drawn_book(rng, in_order, steps, names=("a", "b", "c"), check=None):
    """A Book and the right one on which the same was done; check is called behind each step."""
    book, right = Book(list(names), in_order), RightBook(names, in_order)
    for _ in range(steps):
        word, values = drawn_call(rng, right)
        if check is None:
            outcome(book, word, values)
            outcome(right, word, values)
        else:
            check(book, right, word, values)
    return book, right


class Interface(unittest.TestCase):
    def test_methods_stand_in_the_class_itself(self):
        self.assertEqual(Book.__module__, "fewstamps.book")
        self.assertEqual(Book.__bases__, (object,))
        for name, parameters in METHODS + (("__iter__", ()), ("__len__", ()), ("__init__", ("names", "in_order"))):
            self.assertIn(name, vars(Book))
            self.assertEqual(tuple(inspect.signature(vars(Book)[name]).parameters), ("self",) + parameters)

    def test_by_names(self):
        book = Book(in_order=True, names=("a", "b"))
        self.assertEqual(book.mark(counter=0, name="a"), ("a", 0))
        self.assertEqual(book.happen(name="b"), ("b", 0))
        self.assertEqual((book.send(other="b", name="a"), book.send(name="a", other="b")), (0, 1))
        self.assertEqual((book.entries(number=0), book.entries(number=1)), (((0, 1),), ()))
        self.assertEqual((book.come(number=0), book.known(name="b")), (("b", 1), (1,)))
        self.assertEqual(book.mark(name="b", counter=None), ("b", 2))
        self.assertEqual(book.tells(other=("b", 2), one=("a", 0)), "ahead")
        with self.assertRaises(InOrder):
            book.lose(number=1)

    def test_a_new_book(self):
        for names in ((), ("a",), ("a", "bb", "c", "dd", "e")):
            for how in (tuple, list):
                book = Book(how(names))
                self.assertEqual(book.log(), (tuple((name, 0, ()) for name in names), ()))
                self.assertEqual((book.counters(), book.under_way(), book.raised(), list(book), len(book)), ((), [], [], [], 0))
                for name in names:
                    self.assertEqual(book.known(name), ())
                with self.assertRaises(NoMessage):
                    book.entries(0)

    def test_in_order_is_not_meant_if_nothing_is_told(self):
        book = Book(("a", "b"))
        book.happen("a")
        book.send("a", "b")
        self.assertEqual((book.send("a", "b"), book.come(1), book.lose(0)), (1, ("b", 0), None))


class ByHand(unittest.TestCase):
    def test_what_happens(self):
        book = Book(("a", "b"))
        self.assertEqual([book.happen("b"), book.happen("a"), book.mark("b", None), book.mark("a", 0)],
                         [("b", 0), ("a", 0), ("b", 1), ("a", 1)])
        self.assertEqual(list(book), [("b", 0), ("a", 0), ("b", 1), ("a", 1)])
        self.assertEqual(len(book), 4)
        self.assertEqual(book.log(), ((("a", 2, (1,)), ("b", 2, (1,))), ()))
        self.assertEqual((book.counters(), book.known("a"), book.known("b")), (((("a", 1),),), (1,), (0,)))
        self.assertEqual(book.raised(), [(("b", 1), 1), (("a", 1), 2)])
        self.assertEqual([event for event in book], list(book))
        self.assertIn(("a", 1), book)

    def test_messages_in_any_order(self):
        book = Book(("a", "b"))
        book.mark("a", 0)
        self.assertEqual(book.send("a", "b"), 0)
        book.mark("a", 0)
        self.assertEqual((book.send("a", "b"), book.send("a", "b"), book.under_way()), (1, 2, [0, 1, 2]))
        # None of them has it surely: each one must carry all.
        self.assertEqual([book.entries(number) for number in range(3)], [((0, 1),), ((0, 2),), ((0, 2),)])
        self.assertIs(book.lose(1), None)
        self.assertEqual((book.under_way(), book.entries(1)), ([0, 2], ((0, 2),)))
        self.assertEqual((book.come(2), book.known("b"), book.come(0), book.known("b")), (("b", 0), (2,), ("b", 1), (2,)))
        self.assertEqual(book.log()[1], ((("a", 0), ("b", 1)), (("a", 1), ("b", 0))))
        self.assertEqual(book.under_way(), [])

    def test_messages_in_order(self):
        book = Book(("a", "b", "c"), True)
        book.mark("a", 0)
        self.assertEqual([book.send("a", "b"), book.send("a", "c"), book.send("a", "b")], [0, 1, 2])
        book.mark("a", 1)
        self.assertEqual((book.send("a", "b"), book.send("a", "c")), (3, 4))
        self.assertEqual([book.entries(number) for number in range(5)], [((0, 1),), ((0, 1),), (), ((1, 1),), ((1, 1),)])
        for number, first in ((2, 0), (3, 0), (4, 1)):
            with self.assertRaises(Early) as caught:
                book.come(number)
            self.assertEqual(caught.exception.number, first)
        self.assertEqual((book.come(0), book.known("b"), book.come(2)), (("b", 0), (1, 0), ("b", 1)))
        # What has come is no longer under way, and may still be what the next one need not carry.
        self.assertEqual((book.come(3), book.known("b"), book.under_way()), (("b", 2), (1, 1), [1, 4]))
        book.happen("a")
        self.assertEqual(book.entries(book.send("a", "b")), ())

    def test_what_b_is_known_to_have(self):
        book = Book(("a", "b"))
        book.mark("a", 0)
        book.come(book.send("a", "b"))
        self.assertEqual(book.entries(book.send("a", "b")), ((0, 1),))
        book.come(book.send("b", "a"))
        self.assertEqual(book.entries(2), ())
        book.mark("a", 0)
        self.assertEqual(book.entries(book.send("a", "b")), ((0, 2),))

    def test_a_counter_that_is_new_since(self):
        book = Book(("a", "b", "c"))
        book.mark("a", 0)
        number = book.send("a", "b")
        book.mark("c", 1)
        self.assertEqual((book.known("a"), book.known("b"), book.known("c")), ((1, 0), (0, 0), (0, 1)))
        self.assertEqual((book.come(number), book.known("b"), book.entries(number)), (("b", 0), (1, 0), ((0, 1),)))

    def test_what_is_refused(self):
        book = Book(("a", "b"))
        book.mark("a", 0)
        book.happen("b")
        number = book.send("a", "b")
        gone, came = book.send("a", "b"), book.send("a", "b")
        book.lose(gone)
        book.come(came)
        kept = state(book)
        for word, values, right in (
            ("happen", ("c",), ("NoMachine", "c")), ("happen", ("",), ("NoMachine", "")),
            ("mark", ("c", 0), ("NoMachine", "c")), ("mark", ("c", 7), ("NoMachine", "c")), ("mark", ("c", None), ("NoMachine", "c")),
            ("mark", ("b", 2), ("NoCounter", 2)), ("mark", ("b", -1), ("NoCounter", -1)), ("mark", ("a", 9), ("NoCounter", 9)),
            ("send", ("c", "d"), ("NoMachine", "c")), ("send", ("a", "d"), ("NoMachine", "d")),
            ("send", ("c", "c"), ("NoMachine", "c")), ("send", ("c", "a"), ("NoMachine", "c")), ("send", ("a", "a"), ("SameMachine", "a")),
            ("come", (gone,), ("NoMessage", gone)), ("come", (came,), ("NoMessage", came)), ("come", (3,), ("NoMessage", 3)),
            ("come", (-1,), ("NoMessage", -1)), ("lose", (gone,), ("NoMessage", gone)), ("lose", (came,), ("NoMessage", came)),
            ("lose", (3,), ("NoMessage", 3)), ("lose", (-1,), ("NoMessage", -1)), ("known", ("c",), ("NoMachine", "c")),
            ("entries", (3,), ("NoMessage", 3)), ("entries", (-1,), ("NoMessage", -1)),
            ("tells", (("b", 0), ("a", 0)), ("NoEvent", ("b", 0))), ("tells", (["a", 0], ["c", 5]), ("NoEvent", ("c", 5))),
            ("tells", (("a", 1), ("z", 0)), ("NoEvent", ("a", 1))),
        ):
            self.assertEqual(outcome(book, word, values), right, (word, values))
            self.assertEqual(state(book), kept, (word, values))
        self.assertEqual(book.under_way(), [number])

    def test_not_behind(self):
        book = Book(("a", "b"))
        book.mark("a", 0)
        self.assertEqual(outcome(book, "mark", ("b", 0)), ("NotBehind", 0))
        book.mark("b", 1)
        number = book.send("a", "b")
        book.mark("a", 0)
        book.come(number)
        # b knows of the first EVENT on it, not of the last one.
        self.assertEqual(outcome(book, "mark", ("b", 0)), ("NotBehind", 0))
        self.assertEqual(book.known("b"), (1, 1))
        book.come(book.send("a", "b"))
        self.assertEqual(outcome(book, "mark", ("b", 0)), ("gives", ("b", 3)))
        self.assertEqual(outcome(book, "mark", ("a", 0)), ("NotBehind", 0))

    def test_send_without_events(self):
        for in_order in (False, True):
            book = Book(("a", "b"), in_order)
            self.assertEqual(outcome(book, "send", ("a", "b")), ("NoEvent", ("a", 0)))
            self.assertEqual(outcome(book, "send", ("a", "a")), ("SameMachine", "a"))
            self.assertEqual(outcome(book, "send", ("a", "c")), ("NoMachine", "c"))
            self.assertEqual(outcome(Book(()), "send", ("a", "b")), ("NoMachine", "a"))

    def test_refused_in_order(self):
        book = Book(("a", "b"), True)
        book.mark("a", 0)
        book.send("a", "b")
        book.send("a", "b")
        kept = state(book)
        for word, values, right in (
            ("lose", (0,), ("InOrder",)), ("lose", (2,), ("NoMessage", 2)), ("come", (1,), ("Early", 0)),
            ("come", (2,), ("NoMessage", 2)), ("lose", (-1,), ("NoMessage", -1)),
        ):
            self.assertEqual(outcome(book, word, values), right)
            self.assertEqual(state(book), kept)


class Beside(unittest.TestCase):
    """What a Book tells at each moment is what the document, and the functions, tell of its log."""

    def step(self, book, right, word, values):
        before = state(book)
        expected = outcome(right, word, values)
        found = outcome(book, word, values)
        self.assertEqual(repr(found), repr(expected), (word, values))
        if expected[0] != "gives":
            self.seen[expected[0]] = self.seen.get(expected[0], 0) + 1
            self.assertEqual(state(book), before)
        log, counters = book.log(), book.counters()
        self.assertEqual((log, counters), (right.log(), right.counters()))
        self.assertEqual((list(book), len(book)), (right.done, len(right.done)))
        self.assertEqual(book.under_way(), right.under_way)
        self.assertEqual([book.known(name) for name in right.names], [right.known(name) for name in right.names])
        self.assertEqual([book.entries(number) for number in range(len(right.sent))], [one[2] for one in right.sent])

    def functions(self, book, right, word, values):
        carried = None
        if word == "send" and set(values) <= set(right.names) and right.next_of(values[0])[1]:
            sent = (values[0], right.next_of(values[0])[1] - 1)
            if values[0] != values[1]:
                log, message = right.world(sent, values[1])
                self.assertIs(is_log(log), True)
                carried = must_carry(log, book.counters(), message, right.in_order)
        before, many = gains(book.log()), len(book.raised())
        outcome(right, word, values)
        found = outcome(book, word, values)
        if carried is not None:
            self.assertEqual(found, ("gives", len(right.sent) - 1))
            self.assertEqual(book.entries(found[1]), carried)
            self.carried += len(carried)
        self.assertEqual(len(book.raised()), many + (word == "mark" and found[0] == "gives"))
        if len(book.raised()) > many:
            event, grown = book.raised()[-1]
            self.assertEqual(event, list(book)[-1])
            self.assertEqual(raised_gain(before, gains(book.log())), grown)
        self.ask(book)

    def ask(self, book):
        """A Book is asked beside the functions."""
        log, counters = book.log(), book.counters()
        self.assertIs(is_log(log), True)
        self.assertIs(are_counters(log, counters), True)
        for name, many, _ in log[0]:
            if many:
                last = (name, many - 1)
                self.assertEqual(book.known(name), stamp(log, counters, last))
                self.assertEqual(book.known(name), known_of(log, counters, last, name))
        told = sheet(log, counters)
        marks = marked_events(log)
        self.assertEqual([event for event, _ in book.raised()], [event for event in book if event in marks])
        for one in marks[-3:]:
            for other in marks:
                self.assertEqual(book.tells(one, list(other)), tells(told, one, other))
                self.assertEqual(book.tells(other, one), tells(told, other, one))

    def test_by_the_document(self):
        self.seen = {}
        rng = random.Random(141)
        for count in range(150):
            in_order = count % 2 == 1
            book, right = drawn_book(rng, in_order, 20, names=("a", "b", "c")[:3 - count % 3 // 2], check=self.step)
            self.assertEqual(book.raised()[:6], raised_by_all(book.log(), right.marked[:6]))
        for name in ("NoMachine", "NoCounter", "NotBehind", "SameMachine", "NoEvent", "NoMessage", "Early", "InOrder"):
            self.assertGreater(self.seen.get(name, 0), 5, name)

    def test_by_the_functions(self):
        self.carried = 0
        rng = random.Random(142)
        for count in range(80):
            book, _ = drawn_book(rng, count % 2 == 1, 20, check=self.functions)
            if count % 2:
                self.assertIs(is_in_order(book.log()), True)
        self.assertGreater(self.carried, 50)

    def test_at_the_bounds(self):
        rng = random.Random(143)
        for in_order in (False, True, False, True):
            names = ("alpha", "b", "c", "dd", "machines")
            book, right = Book(names, in_order), RightBook(names, in_order)
            while len(right.done) < 16:
                word, values = drawn_call(rng, right)
                over = word == "mark" and len(right.marked) == 12 or word == "send" and len(right.sent) == 16
                if not over:
                    self.assertEqual(outcome(book, word, values), outcome(right, word, values))
            self.ask(book)
            self.assertEqual((book.log(), book.counters()), (right.log(), right.counters()))

    def test_twelve_counters(self):
        book = Book(("a", "b"))
        for counter in range(12):
            book.mark("ab"[counter % 2], counter)
        self.assertEqual(len(book.counters()), 12)
        self.assertEqual(book.known("a"), (1, 0) * 6)
        self.assertEqual(book.entries(book.send("a", "b")), tuple((counter, 1) for counter in range(0, 12, 2)))
        self.assertEqual(outcome(book, "mark", ("a", 13)), ("NoCounter", 13))

    def test_events_that_are_not_marked_only_have_stamps(self):
        book = Book(("a", "b"))
        book.mark("a", 0)
        book.happen("b")
        book.come(book.send("a", "b"))
        log = book.log()
        self.assertEqual(log, ((("a", 1, (0,)), ("b", 2, ())), ((("a", 0), ("b", 1)),)))
        self.assertIs(is_ahead(log, ("a", 0), ("b", 0)), False)
        self.assertEqual(known_at(log, ("b", 1)), {("a", 0), ("b", 0), ("b", 1)})
        self.assertEqual(book.raised(), [(("a", 0), 1)])


def raised_gain(before, now):
    """By which place the gains differ: only there, and by 1."""
    before = before + [0] * (len(now) - len(before))
    grown = [at for at, (one, other) in enumerate(zip(before, now), 1) if one != other]
    assert len(grown) == 1 and now[grown[0] - 1] == before[grown[0] - 1] + 1
    return grown[0]


class Order(unittest.TestCase):
    def test_raised_goes_by_the_order_in_which_they_were_done(self):
        # As they can come, b 0 would stand behind a 0 and a 1.
        book = Book(("a", "b"))
        book.mark("b", None)
        book.mark("a", None)
        book.mark("a", None)
        self.assertEqual(book.raised(), [(("b", 0), 1), (("a", 0), 2), (("a", 1), 1)])
        other = Book(("a", "b"))
        other.mark("a", None)
        other.mark("a", None)
        other.mark("b", None)
        self.assertEqual(other.log(), book.log())
        self.assertEqual(other.raised(), [(("a", 0), 1), (("a", 1), 1), (("b", 0), 2)])


class Apart(unittest.TestCase):
    def test_twins(self):
        rng = random.Random(144)
        for count in range(24):
            in_order = count % 2 == 1
            book, right = drawn_book(rng, in_order, 12)
            twin = book.twin()
            self.assertIsInstance(twin, Book)
            kept = state(book)
            self.assertEqual(state(twin), kept)
            calls = []
            for _ in range(8):
                word, values = drawn_call(rng, right)
                calls.append((word, values, outcome(right, word, values)))
            # What is done with the one is not seen on the other one, and comes out the same there.
            first, second = (book, twin) if count % 4 < 2 else (twin, book)
            for word, values, expected in calls:
                self.assertEqual(outcome(first, word, values), expected)
                self.assertEqual(state(second), kept)
            later = state(first)
            for word, values, expected in calls:
                self.assertEqual(outcome(second, word, values), expected)
            self.assertEqual((state(first), state(second)), (later, later))

    def test_a_twin_of_a_twin(self):
        book = Book(("a", "b"), True)
        book.mark("a", 0)
        book.send("a", "b")
        book.send("a", "b")
        twin = book.twin().twin()
        with self.assertRaises(Early):
            twin.come(1)
        with self.assertRaises(InOrder):
            twin.lose(0)
        twin.come(0)
        self.assertEqual((book.under_way(), twin.under_way()), ([0, 1], [1]))

    def test_arguments_and_results_belong_to_the_caller(self):
        names = ["a", "b"]
        book = Book(names)
        names[0] = "z"
        names.append("c")
        one, other = ["a", 0], ["b", 0]
        book.mark("a", 0)
        book.mark("b", 1)
        book.send("a", "b")
        kept = state(book)
        for call in (book.under_way, book.raised, lambda: list(book)):
            found = call()
            self.assertIsInstance(found, list)
            self.assertIsNot(call(), found)
            found.append(7)
            self.assertEqual(state(book), kept)
        self.assertEqual(book.tells(one, other), "not")
        self.assertEqual((one, other), (["a", 0], ["b", 0]))
        for found in (book.log(), book.counters(), book.known("a"), book.entries(0), book.happen("a"), book.come(0)):
            self.assertIsInstance(found, tuple)
            self.assertNotIn("[", repr(found))

    def test_queries_change_nothing(self):
        rng = random.Random(145)
        for count in range(10):
            book, _ = drawn_book(rng, count % 2 == 1, 14)
            kept = state(book)
            for _ in range(2):
                self.assertEqual(state(book), kept)


class DeskBesideBook(unittest.TestCase):
    def test_the_same_is_told(self):
        rng = random.Random(146)
        refused = 0
        for count in range(60):
            book, right = Book(("a", "b", "c"), count % 2 == 1), RightBook(("a", "b", "c"), count % 2 == 1)
            requests, expected = [], []
            for _ in range(16):
                word, values = drawn_call(rng, right)
                outcome(right, word, values)
                found = outcome(book, word, values)
                answer = "done" if found[0] == "gives" else f"refused {found[0]}"
                if word in ("happen", "mark") and values[1:] != (-1,):
                    name = "event" if word == "happen" else word
                    more = ["-" if one is None else str(one) for one in values[1:]]
                    requests.append(" ".join([name, values[0]] + more))
                    expected.append(answer)
                    refused += answer != "done"
                elif word == "come" and found[0] == "gives":
                    (name, number), _, _ = right.sent[values[0]]
                    requests += [f"event {found[1][0]}", f"message {name} {number} {found[1][0]} {found[1][1]}"]
                    expected += ["done", "done"]
                more, told = self.asked(book)
                requests += more
                expected += told
            self.assertEqual(answers("\n".join(["a -", "b -", "c -", "", "none"] + requests)), expected)
        self.assertGreater(refused, 20)

    def asked(self, book):
        """Requests that ask what the Book tells, and what it tells."""
        requests, told = [], []
        for name, many, _ in book.log()[0]:
            if many:
                requests.append(f"stamp {name} {many - 1}")
                told.append(" ".join(map(str, book.known(name))) or "-")
        marks = marked_events(book.log())
        for one, other in list(zip(marks, marks[1:])) + list(zip(marks[1:], marks)):
            requests.append(f"tells {one[0]} {one[1]} {other[0]} {other[1]}")
            told.append(book.tells(one, other))
        requests.append("width")
        told.append(str(len(gains(book.log()))))
        return requests, told


if __name__ == "__main__":
    unittest.main()
