"""The examples of DOC.md, word for word."""

import doctest
import unittest

import fewstamps.data
import fewstamps.stamps

# From [4].
LOGS = '''
    >>> log = ((("a", 3, (0, 1, 2)), ("b", 3, (0, 2)), ("c", 2, (0, 1))), ((("a", 0), ("b", 1)), (("b", 1), ("c", 1))))
    >>> is_log(log), marked(log), past(log, ("c", 1)), is_ahead(log, ("a", 1), ("b", 2))
    (True, [('a', 0), ('a', 1), ('a', 2), ('b', 0), ('b', 2), ('c', 0), ('c', 1)], [('a', 0), ('b', 0), ('b', 1), ('c', 0)], False)
    >>> way(log, ("a", 0), ("c", 1)), coming(log)[:5], is_log((log[0], ((("a", 0), ("b", 1)), (("b", 0), ("a", 0)), (("b", 1), ("a", 0)))))
    ((('a', 0), ('b', 1), ('c', 1)), [('a', 0), ('a', 1), ('a', 2), ('b', 0), ('b', 1)], False)
'''

# From [5].
STAMPS = '''
    >>> counters = ((("a", 0), ("a", 1), ("a", 2)), (("b", 0), ("c", 1)))
    >>> are_counters(log, counters), is_row(log, (("a", 1), ("b", 2))), is_cut(log, (("a", 1), ("b", 0), ("c", 0)))
    (True, False, True)
    >>> stamp(log, counters, ("b", 2)), stamp(log, counters, ("c", 1)), place(counters, ("c", 1)), handed(counters)
    ((1, 1), (1, 2), (1, 2), [(1, ('b', 0), ('c', 1))])
'''


def failures(text):
    """How many examples of the text there are, and how many fail."""
    names = dict(vars(fewstamps.data))
    names.update(vars(fewstamps.stamps))
    example = doctest.DocTestParser().get_doctest(text, names, "DOC.md", "DOC.md", 0)
    result = doctest.DocTestRunner(verbose=False).run(example)
    return result.attempted, result.failed


class Examples(unittest.TestCase):
    def test_examples_of_logs(self):
        self.assertEqual(failures(LOGS), (3, 0))

    def test_examples_of_stamps(self):
        self.assertEqual(failures(LOGS + STAMPS), (6, 0))


if __name__ == "__main__":
    unittest.main()
