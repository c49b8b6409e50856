"""The general rules [2] and bounds [3], for each function of the interface so far."""

import copy
import inspect
import unittest

import fewstamps.carry
import fewstamps.data
import fewstamps.desk
import fewstamps.growing
import fewstamps.more
import fewstamps.shape
import fewstamps.stamps
import fewstamps.texts
import fewstamps.told
from tests.helpers import BOUND, COUNTERS, EMPTY, JUNK, LOG, MANY_MESSAGES, UNMARKED, listed, mixed

ROW = (("a", 0), ("b", 2))
CUT = (("a", 1), ("b", 0), ("c", 0))
MANY_COUNTERS = ((("p", 0), ("r", 1), ("r", 2)), (), (("r", 0),), (("q", 1),))
BOUND_COUNTERS = ((("alpha", 0), ("b", 1), ("c", 1), ("machines", 2)), (("dd", 0), ("alpha", 3)), ())
CUTS = ((("a", 0), ("b", 0), ("c", 0)), (("a", 1), ("b", 2), ("c", 1)))
FEW = ((("p", 0), (0, 1), (1,)), (("q", 0), None, (0,)), (("r", 0), None, (1,)))
STAND = (1, 1, 0)
ELDER = ((("a", 0),), (("b", 0),))
ON = (LOG, STAND, ELDER)
BAR = (((("a", 1), ("c", 0)), (("a", 2), ("b", 2), ("c", 1))), (0, 1))
BOUND_ON = (BOUND, (2, 2, 1, 2, 1), ((("alpha", 0), ("b", 1)), (("dd", 0),), ()))
TWO_ENDS = (LOG, ("a", 2), ("b", 0))

TALK = (
    (("a", 3, (0, 1, 2)), ("b", 2, (0,))),
    ((("a", 0), ("b", 0)), (("a", 2), ("b", 1)), (("b", 0), ("a", 1))),
)
LAST = (("a", 2), ("b", 1))
TALKED = (TALK, ((("a", 0), ("a", 1), ("a", 2)), (("b", 0),)))
BOUND_COUNTED = (BOUND, BOUND_COUNTERS)
BOUND_LAST = (("machines", 0), ("c", 2))
TEXT = "a ###\nb #.#\nc ##\na 0 > b 1\nb 1 > c 1"

# The file, the function, the names of its parameters, and values for these.
CALLS = (
    ("data", "is_log", ("thing",), (LOG,)),
    ("data", "events", ("log",), (LOG,)),
    ("data", "events", ("log",), (EMPTY,)),
    ("data", "marked", ("log",), (LOG,)),
    ("data", "marked", ("log",), (BOUND,)),
    ("data", "is_ahead", ("log", "one", "other"), (LOG, ("a", 0), ("b", 2))),
    ("data", "is_ahead", ("log", "one", "other"), (LOG, ("b", 2), ("a", 0))),
    ("data", "past", ("log", "event"), (LOG, ("c", 1))),
    ("data", "past", ("log", "event"), (BOUND, ("machines", 2))),
    ("data", "way", ("log", "one", "other"), (LOG, ("a", 0), ("c", 1))),
    ("data", "way", ("log", "one", "other"), (BOUND, ("alpha", 0), ("machines", 2))),
    ("data", "coming", ("log",), (LOG,)),
    ("data", "coming", ("log",), (BOUND,)),
    ("stamps", "is_row", ("log", "thing"), (LOG, ROW)),
    ("stamps", "is_cut", ("log", "thing"), (LOG, CUT)),
    ("stamps", "are_counters", ("log", "thing"), (LOG, COUNTERS)),
    ("stamps", "counted", ("counters",), (COUNTERS,)),
    ("stamps", "counted", ("counters",), (MANY_COUNTERS,)),
    ("stamps", "place", ("counters", "event"), (COUNTERS, ("c", 1))),
    ("stamps", "place", ("counters", "event"), (COUNTERS, ("b", 2))),
    ("stamps", "stamp", ("log", "counters", "event"), (LOG, COUNTERS, ("b", 2))),
    ("stamps", "stamp", ("log", "counters", "event"), (BOUND, BOUND_COUNTERS, ("machines", 2))),
    ("stamps", "stamps", ("log", "counters"), (LOG, COUNTERS)),
    ("stamps", "stamps", ("log", "counters"), (MANY_MESSAGES, MANY_COUNTERS)),
    ("stamps", "handed", ("counters",), (COUNTERS,)),
    ("stamps", "handed", ("counters",), (MANY_COUNTERS,)),
    ("shape", "gains", ("log",), (LOG,)),
    ("shape", "gains", ("log",), (BOUND,)),
    ("shape", "most_counted", ("log", "many"), (LOG, 2)),
    ("shape", "most_cut", ("log", "many"), (LOG, 2)),
    ("shape", "best_counters", ("log", "many"), (LOG, 2)),
    ("shape", "best_counters", ("log", "many"), (BOUND, 12)),
    ("shape", "best_cuts", ("log", "many"), (LOG, 2)),
    ("shape", "best_cuts", ("log", "many"), (BOUND, 12)),
    ("shape", "fitting", ("log", "many", "height"), (LOG, 2, 2)),
    ("shape", "fitting", ("log", "many", "height"), (LOG, 2, 1)),
    ("shape", "fitting", ("log", "many", "height"), (BOUND, 0, 12)),
    ("shape", "fits", ("log", "thing"), (LOG, (COUNTERS, CUTS))),
    ("shape", "fewest_for", ("log", "many"), (LOG, 6)),
    ("shape", "fewest_for", ("log", "many"), (LOG, 9)),
    ("shape", "in_every", ("log", "many"), (LOG, 1)),
    ("shape", "in_none", ("log", "many"), (LOG, 1)),
    ("shape", "raised", ("log",), (LOG,)),
    ("shape", "raised", ("log",), (BOUND,)),
    ("told", "sheet", ("log", "counters"), (LOG, COUNTERS)),
    ("told", "sheet", ("log", "counters"), (BOUND, BOUND_COUNTERS)),
    ("told", "is_sheet", ("thing",), (FEW,)),
    ("told", "is_order", ("sheet", "thing"), (FEW, ((("p", 0), ("r", 0)),))),
    ("told", "tells", ("sheet", "one", "other"), (FEW, ("q", 0), ("r", 0))),
    ("told", "tells", ("sheet", "one", "other"), (FEW, ("p", 0), ("r", 0))),
    ("told", "told_pairs", ("sheet",), (FEW,)),
    ("told", "open_pairs", ("sheet",), (FEW,)),
    ("told", "orders", ("sheet", "one", "other"), (FEW, ("q", 0), ("r", 0))),
    ("told", "sure", ("sheet",), (FEW,)),
    ("told", "dropped", ("log", "counters"), (LOG, COUNTERS)),
    ("told", "added", ("log", "counters"), (LOG, COUNTERS)),
    ("told", "least_open", ("log", "many"), (LOG, 1)),
    ("told", "telling", ("log", "many"), (LOG, 2)),
    ("told", "fewest_telling", ("log",), (LOG,)),
    ("growing", "is_stand", ("log", "thing"), (LOG, STAND)),
    ("growing", "elder_log", ("log", "stand"), (LOG, (2, 2, 0))),
    ("growing", "new_marked", ("log", "stand"), (LOG, STAND)),
    ("growing", "go_on", ("log", "stand", "counters", "thing"), ON + (COUNTERS,)),
    ("growing", "gains_on", ("log", "stand", "counters"), ON),
    ("growing", "gains_on", ("log", "stand", "counters"), BOUND_ON),
    ("growing", "going_on", ("log", "stand", "counters", "many"), ON + (1,)),
    ("growing", "going_on", ("log", "stand", "counters", "many"), BOUND_ON + (2,)),
    ("growing", "is_bar", ("log", "stand", "counters", "thing"), ON + (BAR,)),
    ("growing", "lets", ("log", "stand", "counters", "bar", "many"), ON + (BAR, 1)),
    ("growing", "bar", ("log", "stand", "counters", "many"), ON + (0,)),
    ("growing", "bar", ("log", "stand", "counters", "many"), BOUND_ON + (1,)),
    ("growing", "fewest_on", ("log", "stand", "counters"), ON),
    ("growing", "barrier", ("log", "stand", "counters"), ON),
    ("growing", "barrier", ("log", "stand", "counters"), BOUND_ON),
    ("growing", "is_barrier", ("log", "stand", "counters", "thing"), ON + (((("c", 0),), (0, 1)),)),
    ("growing", "most_kept", ("log", "stand", "counters", "many"), ON + (1,)),
    ("growing", "keep", ("log", "stand", "counters", "many"), ON + (1,)),
    ("growing", "keep", ("log", "stand", "counters", "many"), BOUND_ON + (2,)),
    ("growing", "lets_kept", ("log", "stand", "counters", "bar", "many"), ON + (BAR, 1)),
    ("growing", "bar_kept", ("log", "stand", "counters", "many"), ON + (1,)),
    ("growing", "bar_kept", ("log", "stand", "counters", "many"), BOUND_ON + (2,)),
    ("growing", "stairs", ("log",), (LOG,)),
    ("growing", "stair_costs", ("log",), (LOG,)),
    ("growing", "stair_costs", ("log",), (BOUND,)),
    ("more", "width", ("log",), (LOG,)),
    ("more", "with_message", ("log", "one", "other"), TWO_ENDS),
    ("more", "with_message", ("log", "one", "other"), (LOG, ("a", 0), ("b", 1))),
    ("more", "without_message", ("log", "message"), (LOG, (("a", 0), ("b", 1)))),
    ("more", "widest_with", ("log", "one", "other"), TWO_ENDS),
    ("more", "sides", ("log", "one", "other"), TWO_ENDS),
    ("more", "saving", ("log",), (LOG,)),
    ("more", "best_message", ("log",), (LOG,)),
    ("more", "best_message", ("log",), (UNMARKED,)),
    ("more", "needless", ("log",), (MANY_MESSAGES,)),
    ("more", "costs", ("log",), (LOG,)),
    ("carry", "is_in_order", ("log",), (TALK,)),
    ("carry", "alike", ("log", "other", "event"), (LOG, LOG, ("c", 1))),
    ("carry", "alike", ("log", "other", "event"), (LOG, BOUND, ("c", 1))),
    ("carry", "has_surely", ("log", "counters", "message", "in_order"), TALKED + (LAST, True)),
    ("carry", "has_surely", ("log", "counters", "message", "in_order"), BOUND_COUNTED + (BOUND_LAST, False)),
    ("carry", "must_carry", ("log", "counters", "message", "in_order"), TALKED + (LAST, False)),
    ("carry", "must_carry", ("log", "counters", "message", "in_order"), BOUND_COUNTED + (BOUND_LAST, False)),
    ("carry", "witness", ("log", "counters", "message", "counter", "in_order"), TALKED + (LAST, 0, True)),
    ("carry", "witness", ("log", "counters", "message", "counter", "in_order"), TALKED + (LAST, 1, False)),
    ("carry", "witness", ("log", "counters", "message", "counter", "in_order"), BOUND_COUNTED + (BOUND_LAST, 0, False)),
    (
        "carry", "is_witness", ("log", "counters", "message", "counter", "in_order", "thing"),
        TALKED + (LAST, 0, True, (TALK, LAST)),
    ),
    ("carry", "news", ("log", "counters", "event"), TALKED + (("a", 1),)),
    ("carry", "news", ("log", "counters", "event"), BOUND_COUNTED + (("machines", 2),)),
    ("carry", "late", ("log", "counters", "message", "in_order"), TALKED + (LAST, True)),
    ("carry", "late", ("log", "counters", "message", "in_order"), BOUND_COUNTED + (BOUND[1][-1], False)),
    ("carry", "totals", ("log", "counters", "in_order"), TALKED + (True,)),
    ("carry", "totals", ("log", "counters", "in_order"), BOUND_COUNTED + (False,)),
    ("carry", "by_last", ("log", "counters", "message"), TALKED + (LAST,)),
    ("carry", "known_of", ("log", "counters", "event", "name"), TALKED + (("a", 2), "b")),
    ("carry", "by_machines", ("log",), (LOG,)),
    ("carry", "by_machines", ("log",), (BOUND,)),
    ("texts", "log_text", ("log",), (LOG,)),
    ("texts", "log_text", ("log",), (BOUND,)),
    ("texts", "log_in", ("text",), (TEXT,)),
    ("texts", "log_in", ("text",), ("",)),
    ("texts", "counters_text", ("counters",), (COUNTERS,)),
    ("texts", "counters_text", ("counters",), (BOUND_COUNTERS,)),
    ("texts", "counters_in", ("log", "text"), (LOG, "a 0, b 2 | -")),
    ("texts", "counters_in", ("log", "text"), (LOG, "none")),
    ("texts", "stamp_text", ("stamp",), ((1, 12, 0),)),
    ("texts", "stamp_text", ("stamp",), ((),)),
    ("desk", "answers", ("text",), (TEXT + "\n\na 0, b 2 | -\nwidth\nmark a 1\nstamp a 3\nmark d 0",)),
    ("desk", "answers", ("text",), ("\nnone",)),
)
FUNCTIONS = {
    "data": ("is_log", "events", "marked", "is_ahead", "past", "way", "coming"),
    "stamps": ("is_row", "is_cut", "are_counters", "counted", "place", "stamp", "stamps", "handed"),
    "shape": (
        "gains", "most_counted", "most_cut", "best_counters", "best_cuts", "fitting", "fits", "fewest_for",
        "in_every", "in_none", "raised",
    ),
    "told": (
        "sheet", "is_sheet", "is_order", "tells", "told_pairs", "open_pairs", "orders", "sure", "dropped",
        "added", "least_open", "telling", "fewest_telling",
    ),
    "growing": (
        "is_stand", "elder_log", "new_marked", "go_on", "gains_on", "going_on", "is_bar", "lets", "bar",
        "fewest_on", "barrier", "is_barrier", "most_kept", "keep", "lets_kept", "bar_kept", "stairs",
        "stair_costs",
    ),
    "more": (
        "width", "with_message", "without_message", "widest_with", "sides", "saving", "best_message",
        "needless", "costs",
    ),
    "carry": (
        "is_in_order", "alike", "has_surely", "must_carry", "witness", "is_witness", "news", "late", "totals",
        "by_last", "known_of", "by_machines",
    ),
    "texts": ("log_text", "log_in", "counters_text", "counters_in", "stamp_text"),
    "desk": ("answers",),
}
FILES = {
    "data": fewstamps.data, "stamps": fewstamps.stamps, "shape": fewstamps.shape, "told": fewstamps.told,
    "growing": fewstamps.growing, "more": fewstamps.more, "carry": fewstamps.carry, "texts": fewstamps.texts,
    "desk": fewstamps.desk,
}
# What is a list, not a tuple.
LISTS = {
    "events", "marked", "past", "coming", "counted", "stamps", "handed", "gains", "in_every", "in_none", "raised",
    "told_pairs", "open_pairs", "sure", "dropped", "new_marked", "gains_on", "stairs", "stair_costs", "saving",
    "needless", "costs", "totals", "answers",
}


def function(file, name):
    return getattr(FILES[file], name)


def changed(names, values, how):
    """The values with lists for tuples, but for what is called thing: there a tuple is a tuple."""
    return [
        how(value) if name != "thing" and isinstance(value, (list, tuple)) else value
        for name, value in zip(names, values)
    ]


def spoil(value):
    """Change all lists in the value."""
    for part in value if isinstance(value, (list, tuple)) else ():
        spoil(part)
    if isinstance(value, list):
        value.append("spoiled")


def exact(value):
    """The value written out, so that lists differ from tuples and True from 1."""
    return repr(value)


class General(unittest.TestCase):
    def test_each_function_is_called_here(self):
        for file, names in FUNCTIONS.items():
            self.assertEqual({name for place, name, _, _ in CALLS if place == file}, set(names))

    def test_each_function_stands_in_its_file_with_its_parameters(self):
        for file, name, names, _ in CALLS:
            found = function(file, name)
            self.assertTrue(inspect.isfunction(found), name)
            self.assertEqual(found.__module__, "fewstamps." + file)
            self.assertEqual(tuple(inspect.signature(found).parameters), names)

    def test_lists_for_tuples(self):
        for file, name, names, values in CALLS:
            for how in (listed, mixed, list):
                with self.subTest(name=name, how=how.__name__):
                    right = function(file, name)(*values)
                    found = function(file, name)(*changed(names, values, how))
                    self.assertEqual(exact(found), exact(right))

    def test_tuples_where_tuples_are_stated(self):
        for file, name, names, values in CALLS:
            found = function(file, name)(*changed(names, values, listed))
            for part in found if isinstance(found, list) else [found]:
                self.assertNotIn("[", exact(part), name)

    def test_several_results_are_a_list_unless_a_tuple_is_named(self):
        for file, name, names, values in CALLS:
            self.assertEqual(isinstance(function(file, name)(*values), list), name in LISTS, name)

    def test_by_names(self):
        for file, name, names, values in CALLS:
            right = function(file, name)(*values)
            for order in (1, -1):
                told = dict(list(zip(names, values))[::order])
                self.assertEqual(exact(function(file, name)(**told)), exact(right))

    def test_in_order_is_left_out(self):
        for file, name, names, values in CALLS:
            if "in_order" in names and "thing" not in names:
                self.assertEqual(names[-1], "in_order")
                self.assertEqual(inspect.signature(function(file, name)).parameters["in_order"].default, False)
                right = function(file, name)(*values[:-1], False)
                self.assertEqual(exact(function(file, name)(*values[:-1])), exact(right))

    def test_things_are_asked_for_exactly(self):
        for file, name, names, values in CALLS:
            if "thing" in names:
                self.assertIs(function(file, name)(*values), True)
                self.assertIs(function(file, name)(*[listed(value) for value in values]), False)

    def test_things_of_any_kind_give_a_bool(self):
        for file, name, names, values in CALLS:
            if "thing" in names:
                for thing in JUNK + ((JUNK, JUNK), list(JUNK), (JUNK[:3],)):
                    found = function(file, name)(*values[:-1], thing)
                    self.assertIsInstance(found, bool)

    def test_no_argument_is_changed(self):
        for file, name, names, values in CALLS:
            told = [listed(value) for value in values]
            kept = copy.deepcopy(told)
            function(file, name)(*told)
            self.assertEqual(exact(told), exact(kept), name)

    def test_the_caller_may_change_what_it_got_and_what_it_gave(self):
        for file, name, names, values in CALLS:
            right = exact(function(file, name)(*values))
            told = changed(names, values, listed)
            found = function(file, name)(*told)
            spoil(found)
            for value in told:
                spoil(value)
            self.assertEqual(exact(function(file, name)(*values)), right, name)
            self.assertEqual(exact(function(file, name)(*changed(names, values, listed))), right, name)

    def test_each_list_is_new(self):
        for file, name, names, values in CALLS:
            first = function(file, name)(*values)
            if isinstance(first, list):
                self.assertIsNot(function(file, name)(*values), first)

    def test_asked_twice_whatever_was_asked_between(self):
        right = [exact(function(file, name)(*values)) for file, name, _, values in CALLS]
        for order in (1, -1):
            found = [exact(function(file, name)(*values)) for file, name, _, values in CALLS[::order]]
            self.assertEqual(found[::order], right)

    def test_lists_that_were_changed_since_are_asked_anew(self):
        log = listed(LOG)
        self.assertEqual(len(fewstamps.data.events(log)), 8)
        log[0][2][1] = 3
        log[1].pop()
        self.assertEqual(len(fewstamps.data.events(log)), 9)
        self.assertEqual(fewstamps.data.past(log, ["c", 2]), [("c", 0), ("c", 1)])
        counters = listed(COUNTERS)
        self.assertEqual(fewstamps.stamps.stamp(log, counters, ["c", 2]), (0, 1))
        counters[0].append(["c", 0])
        self.assertEqual(fewstamps.stamps.stamp(log, counters, ["c", 2]), (1, 1))

    def test_results_may_be_passed_in_again(self):
        for event in fewstamps.data.events(LOG):
            self.assertEqual(fewstamps.data.past(LOG, event), sorted(fewstamps.data.past(LOG, list(event))))
        found = fewstamps.data.way(LOG, ("a", 0), ("a", 2))
        self.assertIs(fewstamps.stamps.is_row(LOG, found), True)


class Bounds(unittest.TestCase):
    def test_a_log_at_the_bounds(self):
        self.assertIs(fewstamps.data.is_log(BOUND), True)
        sizes = (len(BOUND[0]), len(fewstamps.data.events(BOUND)), len(fewstamps.data.marked(BOUND)), len(BOUND[1]))
        self.assertEqual(sizes, (5, 16, 12, 16))
        self.assertEqual(
            fewstamps.data.past(BOUND, ("machines", 0)),
            [("alpha", 0), ("c", 0), ("dd", 0)],
        )

    def test_twelve_rows(self):
        rows = tuple((event,) for event in fewstamps.data.marked(BOUND))
        self.assertIs(fewstamps.stamps.are_counters(BOUND, rows), True)
        self.assertEqual(len(fewstamps.stamps.stamp(BOUND, rows, ("b", 0))), 12)
        self.assertEqual(sum(fewstamps.stamps.stamp(BOUND, rows, ("b", 0))), 1)

    def test_things_beyond_the_bounds(self):
        machines = tuple((name, 5, (0, 1, 2, 3, 4)) for name in ("a", "b", "c", "d", "e", "f", "g"))
        log = (machines, tuple((("a", 0), (name, 1)) for name in ("b", "c", "d", "e", "f", "g")))
        self.assertIs(fewstamps.data.is_log(log), True)
        cut = tuple((name, 0) for name in ("a", "b", "c", "d", "e", "f", "g"))
        self.assertIs(fewstamps.stamps.is_cut(log, cut), True)
        rows = tuple((event,) for event in fewstamps.data.marked(log))
        self.assertEqual(len(rows), 35)
        self.assertIs(fewstamps.stamps.are_counters(log, rows + ((),)), True)
        self.assertIs(fewstamps.stamps.is_row(log, (("a", 0), ("g", 1), ("g", 2), ("g", 3), ("g", 4))), True)


if __name__ == "__main__":
    unittest.main()
