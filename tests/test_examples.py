"""The examples of DOC.md, word for word, and those of README.md."""

import doctest
import os
import unittest

import fewstamps.book
import fewstamps.carry
import fewstamps.data
import fewstamps.desk
import fewstamps.growing
import fewstamps.more
import fewstamps.shape
import fewstamps.stamps
import fewstamps.texts
import fewstamps.told
from fewstamps.errors import Backwards, BadLine, BadRow, NotBehind
from tests.helpers import LOG

# From [4].
LOGS = '''
    >>> log = ((("a", 3, (0, 1, 2)), ("b", 3, (0, 2)), ("c", 2, (0, 1))), ((("a", 0), ("b", 1)), (("b", 1), ("c", 1))))
    >>> is_log(log), marked(log), past(log, ("c", 1)), is_ahead(log, ("a", 1), ("b", 2))
    (True, [('a', 0), ('a', 1), ('a', 2), ('b', 0), ('b', 2), ('c', 0), ('c', 1)], [('a', 0), ('b', 0), ('b', 1), ('c', 0)], False)
    >>> way(log, ("a", 0), ("c", 1)), coming(log)[:5], is_log((log[0], ((("a", 0), ("b", 1)), (("b", 0), ("a", 0)), (("b", 1), ("a", 0)))))
    ((('a', 0), ('b', 1), ('c', 1)), [('a', 0), ('a', 1), ('a', 2), ('b', 0), ('b', 1)], False)
'''

# From [5].
STAMPS = '''
    >>> counters = ((("a", 0), ("a", 1), ("a", 2)), (("b", 0), ("c", 1)))
    >>> are_counters(log, counters), is_row(log, (("a", 1), ("b", 2))), is_cut(log, (("a", 1), ("b", 0), ("c", 0)))
    (True, False, True)
    >>> stamp(log, counters, ("b", 2)), stamp(log, counters, ("c", 1)), place(counters, ("c", 1)), handed(counters)
    ((1, 1), (1, 2), (1, 2), [(1, ('b', 0), ('c', 1))])
'''

# From [6].
SHAPE = '''
    >>> gains(log), most_counted(log, 2), most_cut(log, 2), fewest_for(log, 6), fitting(log, 2, 1)
    ([3, 2, 2], 5, 6, 3, None)
    >>> fits(log, (counters, ((("a", 0), ("b", 0), ("c", 0)), (("a", 1), ("b", 2), ("c", 1)))))
    True
    >>> in_every(log, 1), in_none(log, 1), in_none(log, 2), raised(log)[3:6]
    ([('a', 0), ('a', 1), ('a', 2)], [('b', 0), ('b', 2), ('c', 0), ('c', 1)], [], [(('b', 0), 2), (('b', 2), 2), (('c', 0), 3)])
'''

# From [7].
TOLD = '''
    >>> sheet(log, counters)[3:5], tells(sheet(log, counters), ("b", 2), ("c", 1)), tells(sheet(log, counters), ("b", 2), ("a", 2))
    (((('b', 0), (1, 1), (0, 1)), (('b', 2), None, (1, 1))), 'open', 'not')
    >>> len(told_pairs(sheet(log, counters))), len(open_pairs(sheet(log, counters))), sure(sheet(log, counters))
    (7, 7, [('a', 0), ('a', 1), ('a', 2), ('b', 0), ('c', 1)])
    >>> few = ((("p", 0), (0, 1), (1,)), (("q", 0), None, (0,)), (("r", 0), None, (1,)))
    >>> is_sheet(few), open_pairs(few), orders(few, ("q", 0), ("r", 0))[0], is_sheet(few[1:])
    (True, [(('q', 0), ('p', 0)), (('q', 0), ('r', 0))], ((('p', 0), ('r', 0)),), False)
    >>> dropped(log, counters), added(log, counters), least_open(log, 1), least_open(log, 2), fewest_telling(log)
    ([18, 11], ((('c', 0),), 1), 18, 7, 3)
    >>> split = ((("p", 4, (0, 1, 2, 3)), ("q", 3, (0, 1, 2)), ("r", 1, (0,))), ((("p", 1), ("r", 0)), (("q", 0), ("r", 0))))
    >>> least_open(split, 2), fewest_telling(split), least_open(split, 1)
    (0, 2, 23)
'''

# From [8].
GROWING = '''
    >>> stand, elder = (1, 1, 0), ((("a", 0),), (("b", 0),))
    >>> new_marked(log, stand), gains_on(log, stand, elder), fewest_on(log, stand, elder)
    ([('a', 1), ('a', 2), ('b', 2), ('c', 0), ('c', 1)], [3, 2], 1)
    >>> lets(log, stand, elder, (((("a", 1), ("c", 0)), (("a", 2), ("b", 2), ("c", 1))), (0, 1)), 0), is_barrier(log, stand, elder, ((("c", 0),), (0, 1)))
    (3, True)
    >>> most_kept(log, stand, elder, 1), keep(log, stand, elder, 1), stairs(log)[3:]
    (3, (0,), [(('b', 0), 1, 2), (('b', 2), 2, 1), (('c', 0), 3, 3), (('c', 1), 4, 2)])
    >>> stair_costs(log)[3:]
    [(('b', 0), 2, 2, 3), (('b', 2), 3, 2, 4), (('c', 0), 4, 3, 4), (('c', 1), 5, 3, 5)]
'''

# From [10].
MORE = '''
    >>> width(log), sides(log, ("c", 0), ("b", 0)), widest_with(log, ("c", 0), ("b", 0)), widest_with(log, ("a", 2), ("b", 0))
    (3, (3, 2), (('a', 1), ('b', 2), ('c', 1)), (('a', 0), ('c', 0)))
    >>> saving(log), best_message(log), needless(log)
    ([(('a', 2), ('b', 0), 1), (('a', 2), ('c', 0), 1), (('b', 2), ('c', 0), 1)], (('a', 2), ('b', 0)), [])
    >>> costs(log), costs(((("p", 1, (0,)), ("q", 1, (0,))), ((("p", 0), ("q", 0)),)))
    ([((('a', 0), ('b', 1)), 0), ((('b', 1), ('c', 1)), 0)], [((('p', 0), ('q', 0)), 1)])
'''

# From [9].
CARRY = '''
    >>> talk = ((("a", 3, (0, 1, 2)), ("b", 2, (0,))), ((("a", 0), ("b", 0)), (("a", 2), ("b", 1)), (("b", 0), ("a", 1))))
    >>> two, last = by_machines(talk), (("a", 2), ("b", 1))
    >>> two, has_surely(talk, two, last), must_carry(talk, two, last), by_last(talk, two, last)
    (((('a', 0), ('a', 1), ('a', 2)), (('b', 0),)), (1, 1), ((0, 3),), ((0, 3), (1, 1)))
    >>> witness(talk, two, last, 1), is_witness(talk, two, last, 0, False, (talk, last)), news(talk, two, ("a", 1)), totals(talk, two)
    (None, True, ((1, 1),), [(2, 2), (1, 1)])
    >>> known_of(talk, two, ("a", 2), "b"), must_carry(log, counters, (("b", 1), ("c", 1))), late(log, counters, (("b", 1), ("c", 1)))
    ((1, 1), ((0, 1), (1, 1)), ())
'''

# From [11].
TEXTS = r'''
    >>> log_text(log), counters_text(counters), stamp_text((1, 2))
    ('a ###\nb #.#\nc ##\na 0 > b 1\nb 1 > c 1', 'a 0, a 1, a 2 | b 0, c 1', '1 2')
    >>> log_in("a ##\nb -"), counters_in(log, "none"), counters_in(log, "-"), log_in("")
    (((('a', 2, (0, 1)), ('b', 0, ())), ()), (), ((),), ((), ()))
'''

# From [12].
DESK = r'''
    >>> answers("a ###\nb #.#\nc ##\na 0 > b 1\nb 1 > c 1\n\na 0, a 1, a 2 | b 0, c 1\nahead a 0 c 1\nstamp c 1\ntells b 2 c 1\nwidth\nbest\nmark b 1\nmessage a 2 b 0\nwidth\npast b 0\nstamp d 0")
    ['yes', '1 2', 'open', '3', 'a 2 > b 0', 'refused NotBehind', 'done', '2', 'a 0, a 1, a 2', 'refused NoEvent']
'''

# From [13].
BOOK = '''
    >>> book = Book(("a", "b"))
    >>> book.mark("a", 0), book.send("a", "b"), book.entries(0), book.mark("b", 1), book.come(0), book.known("b")
    (('a', 0), 0, ((0, 1),), ('b', 0), ('b', 1), (1, 1))
    >>> book.mark("b", 0), book.counters(), book.raised()
    (('b', 2), ((('a', 0), ('b', 2)), (('b', 0),)), [(('a', 0), 1), (('b', 0), 2), (('b', 2), 1)])
    >>> book.send("b", "a"), book.entries(1), book.tells(("a", 0), ("b", 0)), book.under_way(), list(book)
    (1, ((0, 2), (1, 1)), 'not', [1], [('a', 0), ('b', 0), ('b', 1), ('b', 2)])
'''

README = os.path.join(os.path.dirname(os.path.dirname(os.path.abspath(__file__))), "README.md")
FILES = (
    fewstamps.data, fewstamps.stamps, fewstamps.shape, fewstamps.told, fewstamps.growing, fewstamps.more,
    fewstamps.carry, fewstamps.texts, fewstamps.desk, fewstamps.book,
)


def failures(text):
    """How many examples of the text there are, and how many fail."""
    names = {}
    for file in FILES:
        names.update(vars(file))
    example = doctest.DocTestParser().get_doctest(text, names, "DOC.md", "DOC.md", 0)
    result = doctest.DocTestRunner(verbose=False).run(example)
    return result.attempted, result.failed


class Examples(unittest.TestCase):
    def test_examples_of_logs(self):
        self.assertEqual(failures(LOGS), (3, 0))

    def test_examples_of_stamps(self):
        self.assertEqual(failures(LOGS + STAMPS), (6, 0))

    def test_examples_of_shapes(self):
        self.assertEqual(failures(LOGS + STAMPS + SHAPE), (9, 0))

    def test_examples_of_what_stamps_tell(self):
        self.assertEqual(failures(LOGS + STAMPS + TOLD), (13, 0))

    def test_examples_of_logs_that_grow(self):
        self.assertEqual(failures(LOGS + STAMPS + GROWING), (11, 0))

    def test_examples_of_messages_more_and_less(self):
        self.assertEqual(failures(LOGS + STAMPS + MORE), (9, 0))

    def test_examples_of_what_messages_carry(self):
        self.assertEqual(failures(LOGS + STAMPS + CARRY), (11, 0))

    def test_examples_of_texts(self):
        self.assertEqual(failures(LOGS + STAMPS + TEXTS), (8, 0))

    def test_examples_of_a_desk(self):
        self.assertEqual(failures(DESK), (1, 0))

    def test_examples_of_a_book(self):
        self.assertEqual(failures(BOOK), (4, 0))

    def test_examples_of_the_readme(self):
        found = doctest.testfile(README, module_relative=False)
        self.assertGreater(found.attempted, 10)
        self.assertEqual(found.failed, 0)

    def test_examples_of_texts_that_raise(self):
        with self.assertRaises(BadLine) as caught:
            fewstamps.texts.log_in("a ##\nb #\na 1 > b 0\nb 0 > a 0")
        self.assertEqual(caught.exception.number, 3)
        with self.assertRaises(BadRow) as caught:
            fewstamps.texts.counters_in(LOG, "a 0, b 2 | b 0, a 2")
        self.assertEqual(caught.exception.number, 1)

    def test_example_of_a_book_that_raises(self):
        book = fewstamps.book.Book(("a", "b"))
        book.mark("a", 0)
        book.send("a", "b")
        book.mark("b", 1)
        book.come(0)
        book.mark("b", 0)
        book.send("b", "a")
        with self.assertRaises(NotBehind) as caught:
            book.mark("a", 0)
        self.assertEqual(caught.exception.counter, 0)

    def test_example_that_raises(self):
        with self.assertRaises(Backwards) as caught:
            fewstamps.more.with_message(LOG, ("b", 2), ("a", 0))
        self.assertEqual((caught.exception.one, caught.exception.other), (("b", 2), ("a", 0)))


if __name__ == "__main__":
    unittest.main()
