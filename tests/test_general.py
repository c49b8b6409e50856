"""The general rules [2] and bounds [3], for each function of data.py and stamps.py."""

import copy
import inspect
import unittest

import fewstamps.data
import fewstamps.stamps
from tests.helpers import BOUND, COUNTERS, EMPTY, JUNK, LOG, MANY_MESSAGES, listed, mixed

ROW = (("a", 0), ("b", 2))
CUT = (("a", 1), ("b", 0), ("c", 0))
MANY_COUNTERS = ((("p", 0), ("r", 1), ("r", 2)), (), (("r", 0),), (("q", 1),))
BOUND_COUNTERS = ((("alpha", 0), ("b", 1), ("c", 1), ("machines", 2)), (("dd", 0), ("alpha", 3)), ())

# The file, the function, the names of its parameters, and values for these.
CALLS = (
    ("data", "is_log", ("thing",), (LOG,)),
    ("data", "events", ("log",), (LOG,)),
    ("data", "events", ("log",), (EMPTY,)),
    ("data", "marked", ("log",), (LOG,)),
    ("data", "marked", ("log",), (BOUND,)),
    ("data", "is_ahead", ("log", "one", "other"), (LOG, ("a", 0), ("b", 2))),
    ("data", "is_ahead", ("log", "one", "other"), (LOG, ("b", 2), ("a", 0))),
    ("data", "past", ("log", "event"), (LOG, ("c", 1))),
    ("data", "past", ("log", "event"), (BOUND, ("machines", 2))),
    ("data", "way", ("log", "one", "other"), (LOG, ("a", 0), ("c", 1))),
    ("data", "way", ("log", "one", "other"), (BOUND, ("alpha", 0), ("machines", 2))),
    ("data", "coming", ("log",), (LOG,)),
    ("data", "coming", ("log",), (BOUND,)),
    ("stamps", "is_row", ("log", "thing"), (LOG, ROW)),
    ("stamps", "is_cut", ("log", "thing"), (LOG, CUT)),
    ("stamps", "are_counters", ("log", "thing"), (LOG, COUNTERS)),
    ("stamps", "counted", ("counters",), (COUNTERS,)),
    ("stamps", "counted", ("counters",), (MANY_COUNTERS,)),
    ("stamps", "place", ("counters", "event"), (COUNTERS, ("c", 1))),
    ("stamps", "place", ("counters", "event"), (COUNTERS, ("b", 2))),
    ("stamps", "stamp", ("log", "counters", "event"), (LOG, COUNTERS, ("b", 2))),
    ("stamps", "stamp", ("log", "counters", "event"), (BOUND, BOUND_COUNTERS, ("machines", 2))),
    ("stamps", "stamps", ("log", "counters"), (LOG, COUNTERS)),
    ("stamps", "stamps", ("log", "counters"), (MANY_MESSAGES, MANY_COUNTERS)),
    ("stamps", "handed", ("counters",), (COUNTERS,)),
    ("stamps", "handed", ("counters",), (MANY_COUNTERS,)),
)
FUNCTIONS = {
    "data": ("is_log", "events", "marked", "is_ahead", "past", "way", "coming"),
    "stamps": ("is_row", "is_cut", "are_counters", "counted", "place", "stamp", "stamps", "handed"),
}


def function(file, name):
    return getattr({"data": fewstamps.data, "stamps": fewstamps.stamps}[file], name)


def changed(names, values, how):
    """The values with lists for tuples, but for what is called thing: there a tuple is a tuple."""
    return [value if name == "thing" else how(value) for name, value in zip(names, values)]


def spoil(value):
    """Change all lists in the value."""
    for part in value if isinstance(value, (list, tuple)) else ():
        spoil(part)
    if isinstance(value, list):
        value.append("spoiled")


def exact(value):
    """The value written out, so that lists differ from tuples and True from 1."""
    return repr(value)


class General(unittest.TestCase):
    def test_each_function_is_called_here(self):
        for file, names in FUNCTIONS.items():
            self.assertEqual({name for place, name, _, _ in CALLS if place == file}, set(names))

    def test_each_function_stands_in_its_file_with_its_parameters(self):
        for file, name, names, _ in CALLS:
            found = function(file, name)
            self.assertTrue(inspect.isfunction(found), name)
            self.assertEqual(found.__module__, "fewstamps." + file)
            self.assertEqual(tuple(inspect.signature(found).parameters), names)

    def test_lists_for_tuples(self):
        for file, name, names, values in CALLS:
            for how in (listed, mixed, list):
                with self.subTest(name=name, how=how.__name__):
                    right = function(file, name)(*values)
                    found = function(file, name)(*changed(names, values, how))
                    self.assertEqual(exact(found), exact(right))

    def test_tuples_where_tuples_are_stated(self):
        for file, name, names, values in CALLS:
            found = function(file, name)(*changed(names, values, listed))
            for part in found if isinstance(found, list) else [found]:
                self.assertNotIn("[", exact(part), name)

    def test_by_names(self):
        for file, name, names, values in CALLS:
            right = function(file, name)(*values)
            for order in (1, -1):
                told = dict(list(zip(names, values))[::order])
                self.assertEqual(exact(function(file, name)(**told)), exact(right))

    def test_things_are_asked_for_exactly(self):
        for file, name, names, values in CALLS:
            if "thing" in names:
                self.assertIs(function(file, name)(*values), True)
                self.assertIs(function(file, name)(*[listed(value) for value in values]), False)

    def test_things_of_any_kind_give_a_bool(self):
        for file, name, names, values in CALLS:
            if "thing" in names:
                for thing in JUNK + ((JUNK, JUNK), list(JUNK), (JUNK[:3],)):
                    found = function(file, name)(*values[:-1], thing)
                    self.assertIsInstance(found, bool)

    def test_no_argument_is_changed(self):
        for file, name, names, values in CALLS:
            told = [listed(value) for value in values]
            kept = copy.deepcopy(told)
            function(file, name)(*told)
            self.assertEqual(exact(told), exact(kept), name)

    def test_the_caller_may_change_what_it_got_and_what_it_gave(self):
        for file, name, names, values in CALLS:
            right = exact(function(file, name)(*values))
            told = changed(names, values, listed)
            found = function(file, name)(*told)
            spoil(found)
            for value in told:
                spoil(value)
            self.assertEqual(exact(function(file, name)(*values)), right, name)
            self.assertEqual(exact(function(file, name)(*changed(names, values, listed))), right, name)

    def test_each_list_is_new(self):
        for file, name, names, values in CALLS:
            first = function(file, name)(*values)
            if isinstance(first, list):
                self.assertIsNot(function(file, name)(*values), first)

    def test_asked_twice_whatever_was_asked_between(self):
        right = [exact(function(file, name)(*values)) for file, name, _, values in CALLS]
        for order in (1, -1):
            found = [exact(function(file, name)(*values)) for file, name, _, values in CALLS[::order]]
            self.assertEqual(found[::order], right)

    def test_lists_that_were_changed_since_are_asked_anew(self):
        log = listed(LOG)
        self.assertEqual(len(fewstamps.data.events(log)), 8)
        log[0][2][1] = 3
        log[1].pop()
        self.assertEqual(len(fewstamps.data.events(log)), 9)
        self.assertEqual(fewstamps.data.past(log, ["c", 2]), [("c", 0), ("c", 1)])
        counters = listed(COUNTERS)
        self.assertEqual(fewstamps.stamps.stamp(log, counters, ["c", 2]), (0, 1))
        counters[0].append(["c", 0])
        self.assertEqual(fewstamps.stamps.stamp(log, counters, ["c", 2]), (1, 1))

    def test_results_may_be_passed_in_again(self):
        for event in fewstamps.data.events(LOG):
            self.assertEqual(fewstamps.data.past(LOG, event), sorted(fewstamps.data.past(LOG, list(event))))
        found = fewstamps.data.way(LOG, ("a", 0), ("a", 2))
        self.assertIs(fewstamps.stamps.is_row(LOG, found), True)


class Bounds(unittest.TestCase):
    def test_a_log_at_the_bounds(self):
        self.assertIs(fewstamps.data.is_log(BOUND), True)
        sizes = (len(BOUND[0]), len(fewstamps.data.events(BOUND)), len(fewstamps.data.marked(BOUND)), len(BOUND[1]))
        self.assertEqual(sizes, (5, 16, 12, 16))
        self.assertEqual(
            fewstamps.data.past(BOUND, ("machines", 0)),
            [("alpha", 0), ("c", 0), ("dd", 0)],
        )

    def test_twelve_rows(self):
        rows = tuple((event,) for event in fewstamps.data.marked(BOUND))
        self.assertIs(fewstamps.stamps.are_counters(BOUND, rows), True)
        self.assertEqual(len(fewstamps.stamps.stamp(BOUND, rows, ("b", 0))), 12)
        self.assertEqual(sum(fewstamps.stamps.stamp(BOUND, rows, ("b", 0))), 1)

    def test_things_beyond_the_bounds(self):
        machines = tuple((name, 5, (0, 1, 2, 3, 4)) for name in ("a", "b", "c", "d", "e", "f", "g"))
        log = (machines, tuple((("a", 0), (name, 1)) for name in ("b", "c", "d", "e", "f", "g")))
        self.assertIs(fewstamps.data.is_log(log), True)
        cut = tuple((name, 0) for name in ("a", "b", "c", "d", "e", "f", "g"))
        self.assertIs(fewstamps.stamps.is_cut(log, cut), True)
        rows = tuple((event,) for event in fewstamps.data.marked(log))
        self.assertEqual(len(rows), 35)
        self.assertIs(fewstamps.stamps.are_counters(log, rows + ((),)), True)
        self.assertIs(fewstamps.stamps.is_row(log, (("a", 0), ("g", 1), ("g", 2), ("g", 3), ("g", 4))), True)


if __name__ == "__main__":
    unittest.main()
