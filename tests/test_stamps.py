"""stamps.py: [5]."""

import itertools
import random
import unittest

from fewstamps.errors import NoEvent
from fewstamps.stamps import (
    are_counters, counted, handed, is_cut, is_row, place, stamp, stamps,
)
from tests.helpers import (
    BARE_MACHINES, BOUND, COUNTERS, EMPTY, JUNK, LOG, LOGS, MANY_MESSAGES, UNMARKED,
    ahead_pairs, all_events, listed, marked_events, mixed, random_counters, random_logs,
)

# Forms that are no EVENT, or none that is marked in LOG.
NO_MARKED = (
    ("b", 1), ("a", 3), ("a", -1), ("d", 0), ("", 0), ("a", True), ("a", False), ("a", None), ("a", "0"),
    ("a", (0,)), (("a", 0),), ("a",), ("a", 0, 0), ["a", 0], "a0", "a", 0, True, None, (), [], (["a"], 0),
)


def some_logs(seed, many):
    return LOGS + tuple(random_logs(seed, many))


def tuples_of(values, most):
    """All tuples of up to so many of these values, also with one of them twice."""
    for many in range(most + 1):
        yield from itertools.product(values, repeat=many)


class Rows(unittest.TestCase):
    def test_rows(self):
        for row in (
            (), (("a", 0),), (("a", 0), ("a", 2)), (("a", 0), ("b", 2)), (("b", 0), ("c", 1)),
            (("a", 0), ("a", 1), ("a", 2)), (("b", 0), ("b", 2)),
        ):
            self.assertIs(is_row(LOG, row), True, row)

    def test_no_rows(self):
        for row in (
            (("a", 1), ("b", 2)), (("a", 1), ("a", 0)), (("a", 0), ("a", 0)), (("a", 0), ("b", 0)),
            (("a", 0), ("b", 1)), (("b", 2), ("c", 1)), (("a", 0), ("a", 2), ("a", 1)), ("a", 0),
        ):
            self.assertIs(is_row(LOG, row), False, row)

    def test_rows_that_do_not_ascend(self):
        log = ((("a", 2, (0, 1)), ("b", 2, (0, 1))), ((("b", 0), ("a", 0)),))
        self.assertIs(is_row(log, (("b", 0), ("a", 0), ("a", 1))), True)
        self.assertIs(is_row(log, (("a", 0), ("b", 0))), False)

    def test_all_short_ones(self):
        for log in some_logs(11, 20):
            pairs = ahead_pairs(log)
            for row in tuples_of(all_events(log), 2):
                right = set(row) <= set(marked_events(log)) and all(
                    pair in pairs for pair in zip(row, row[1:])
                )
                self.assertIs(is_row(log, row), right, (log, row))

    def test_without_marked_events(self):
        for log in (EMPTY, BARE_MACHINES, UNMARKED):
            self.assertIs(is_row(log, ()), True)
            self.assertIs(is_row(log, (("a", 0),)), False)

    def test_values_of_other_kinds_and_forms(self):
        for thing in JUNK:
            self.assertIs(is_row(LOG, thing), False, thing)
            self.assertIs(is_row(LOG, (("a", 0), thing)), False, thing)
        for part in NO_MARKED:
            self.assertIs(is_row(LOG, (part,)), False, part)
            self.assertIs(is_row(LOG, (("a", 0), part)), False, part)
            self.assertIs(is_row(LOG, (part, ("a", 2))), False, part)

    def test_lists_are_no_rows(self):
        self.assertIs(is_row(LOG, [("a", 0), ("a", 1)]), False)
        self.assertIs(is_row(LOG, (["a", 0], ["a", 1])), False)
        self.assertIs(is_row(LOG, []), False)


class Cuts(unittest.TestCase):
    def test_cuts(self):
        for cut in (
            (), (("b", 2),), (("a", 0), ("b", 0)), (("a", 1), ("b", 0), ("c", 0)), (("a", 2), ("b", 2), ("c", 1)),
        ):
            self.assertIs(is_cut(LOG, cut), True, cut)

    def test_no_cuts(self):
        for cut in (
            (("a", 0), ("a", 1)), (("a", 0), ("b", 2)), (("b", 0), ("a", 0)), (("a", 0), ("a", 0)),
            (("a", 0), ("b", 1)), (("a", 1), ("b", 1)), (("a", 0), ("c", 0), ("c", 1)), ("a", 0),
            (("a", 0), ("c", 0), ("b", 0)),
        ):
            self.assertIs(is_cut(LOG, cut), False, cut)

    def test_pairs_that_are_not_neighbours_are_looked_at_too(self):
        # a 0 is ahead of c 0, b 0 is beside both.
        log = ((("a", 1, (0,)), ("b", 1, (0,)), ("c", 1, (0,))), ((("a", 0), ("c", 0)),))
        self.assertIs(is_cut(log, (("a", 0), ("b", 0), ("c", 0))), False)
        # Here the later one by Python's order is ahead.
        log = (log[0], ((("c", 0), ("a", 0)),))
        self.assertIs(is_cut(log, (("a", 0), ("b", 0), ("c", 0))), False)
        self.assertIs(is_cut(log, (("a", 0), ("b", 0))), True)

    def test_all_short_ones(self):
        for log in some_logs(12, 20):
            pairs = ahead_pairs(log)
            for cut in tuples_of(all_events(log), 2):
                right = (
                    set(cut) <= set(marked_events(log)) and sorted(set(cut)) == list(cut)
                    and not any(pair in pairs for pair in itertools.product(cut, repeat=2))
                )
                self.assertIs(is_cut(log, cut), right, (log, cut))

    def test_without_marked_events(self):
        for log in (EMPTY, BARE_MACHINES, UNMARKED):
            self.assertIs(is_cut(log, ()), True)
            self.assertIs(is_cut(log, (("a", 0),)), False)

    def test_values_of_other_kinds_and_forms(self):
        for thing in JUNK:
            self.assertIs(is_cut(LOG, thing), False, thing)
            self.assertIs(is_cut(LOG, (("a", 0), thing)), False, thing)
        for part in NO_MARKED:
            self.assertIs(is_cut(LOG, (part,)), False, part)
            self.assertIs(is_cut(LOG, (("a", 0), part)), False, part)
            self.assertIs(is_cut(LOG, (part, ("c", 0))), False, part)

    def test_lists_are_no_cuts(self):
        self.assertIs(is_cut(LOG, [("a", 0), ("b", 0)]), False)
        self.assertIs(is_cut(LOG, (["a", 0], ["b", 0])), False)
        self.assertIs(is_cut(LOG, []), False)


class AreCounters(unittest.TestCase):
    def test_counters(self):
        for counters in (
            (), ((),), ((), ()), COUNTERS, COUNTERS + ((),), ((),) + COUNTERS, ((("c", 0),),),
            ((("b", 2),), (("a", 0),)),
        ):
            self.assertIs(are_counters(LOG, counters), True, counters)

    def test_no_counters(self):
        for counters in (
            ((("a", 0),), (("a", 0),)), ((("a", 0), ("a", 0)),), ((("a", 0), ("a", 1)), (), (("a", 1), ("a", 2))),
            ((("a", 0), ("a", 1)), (("a", 0), ("b", 2))), ((("a", 1), ("a", 0)),), ((("b", 1),),),
            ((), (("a", 1), ("b", 2))), (("a", 0),), (("a", 0), ("a", 1)),
        ):
            self.assertIs(are_counters(LOG, counters), False, counters)

    def test_without_marked_events(self):
        for log in (EMPTY, BARE_MACHINES, UNMARKED):
            self.assertIs(are_counters(log, ()), True)
            self.assertIs(are_counters(log, ((), ())), True)
            self.assertIs(are_counters(log, ((("a", 0),),)), False)

    def test_at_random(self):
        rng = random.Random(13)
        for log in some_logs(13, 100):
            counters = random_counters(rng, log)
            self.assertIs(are_counters(log, counters), True, (log, counters))
            again = [event for row in counters for event in row]
            if again:
                self.assertIs(are_counters(log, counters + ((rng.choice(again),),)), False)
            for row in counters:
                if len(row) > 1:
                    self.assertIs(are_counters(log, (row[::-1],)), False)

    def test_values_of_other_kinds_and_forms(self):
        for thing in JUNK:
            right = thing in ((), ((),), ((), ())) or thing == ((("a", 0),),)
            self.assertIs(are_counters(LOG, thing), right, thing)
            if thing != ():
                self.assertIs(are_counters(LOG, ((("a", 1),), thing)), False, thing)
        for part in NO_MARKED:
            self.assertIs(are_counters(LOG, ((("a", 0), part),)), False, part)
            self.assertIs(are_counters(LOG, ((("a", 0),), (part,))), False, part)

    def test_lists_are_no_counters(self):
        for thing in (
            [], [()], ([],), [(("a", 0),)], ([("a", 0)],), ((["a", 0],),), listed(COUNTERS), mixed(COUNTERS),
        ):
            self.assertIs(are_counters(LOG, thing), False, thing)


class Counted(unittest.TestCase):
    def test_counted(self):
        self.assertEqual(counted(()), [])
        self.assertEqual(counted(((), ())), [])
        self.assertEqual(counted(COUNTERS), [("a", 0), ("a", 1), ("a", 2), ("b", 0), ("c", 1)])
        self.assertEqual(counted(((("c", 1),), (), (("b", 0), ("a", 4)))), [("a", 4), ("b", 0), ("c", 1)])

    def test_place(self):
        self.assertEqual(place(COUNTERS, ("a", 0)), (0, 1))
        self.assertEqual(place(COUNTERS, ("a", 2)), (0, 3))
        self.assertEqual(place(COUNTERS, ("b", 0)), (1, 1))
        self.assertEqual(place(((), ()) + COUNTERS, ("c", 1)), (3, 2))
        self.assertIs(place(COUNTERS, ("b", 2)), None)
        self.assertIs(place(COUNTERS, ("b", 1)), None)
        self.assertIs(place((), ("a", 0)), None)
        self.assertIs(place(((),), ("a", 0)), None)

    def test_place_knows_of_no_log(self):
        for event in (("q", 0), ("a", 99), ("a", -1)):
            self.assertIs(place(COUNTERS, event), None)

    def test_at_random(self):
        rng = random.Random(14)
        for log in some_logs(14, 60):
            counters = random_counters(rng, log)
            right = {}
            for index, row in enumerate(counters):
                for many, event in enumerate(row):
                    right[event] = (index, many + 1)
            self.assertEqual(counted(counters), sorted(right))
            for event in all_events(log):
                self.assertEqual(place(counters, event), right.get(event))


class Stamps(unittest.TestCase):
    def test_stamp(self):
        self.assertEqual(stamp(LOG, COUNTERS, ("a", 0)), (1, 0))
        self.assertEqual(stamp(LOG, COUNTERS, ("c", 0)), (0, 0))
        self.assertEqual(stamp(LOG, COUNTERS, ("b", 0)), (0, 1))
        self.assertEqual(stamp(LOG, (), ("b", 0)), ())
        self.assertEqual(stamp(LOG, ((), (("b", 0),), ()), ("b", 0)), (0, 1, 0))

    def test_stamp_of_an_event_that_is_not_marked(self):
        self.assertEqual(stamp(LOG, COUNTERS, ("b", 1)), (1, 1))
        self.assertEqual(stamp(UNMARKED, ((),), ("a", 1)), (0,))

    def test_stamp_by_several_messages(self):
        rows = ((("p", 0), ("p", 2)), (("q", 1), ("r", 2)), (("r", 0), ("r", 1)))
        self.assertEqual(stamp(MANY_MESSAGES, rows, ("r", 2)), (1, 2, 2))
        self.assertEqual(stamp(MANY_MESSAGES, rows, ("q", 2)), (1, 1, 0))

    def test_stamps(self):
        self.assertEqual(
            stamps(LOG, COUNTERS),
            [
                (("a", 0), (1, 0)), (("a", 1), (2, 0)), (("a", 2), (3, 0)), (("b", 0), (0, 1)),
                (("b", 2), (1, 1)), (("c", 0), (0, 0)), (("c", 1), (1, 2)),
            ],
        )
        for log in (EMPTY, BARE_MACHINES, UNMARKED):
            self.assertEqual(stamps(log, ()), [])
            self.assertEqual(stamps(log, ((), ())), [])
        self.assertEqual(stamps(BOUND, ())[0], (("alpha", 0), ()))
        self.assertEqual(len(stamps(BOUND, ((),))), 12)

    def test_at_random(self):
        rng = random.Random(15)
        for log in some_logs(15, 60):
            pairs = ahead_pairs(log)
            counters = random_counters(rng, log)
            right = {}
            for event in all_events(log):
                right[event] = tuple(
                    sum(one == event or (one, event) in pairs for one in row) for row in counters
                )
                self.assertEqual(stamp(log, counters, event), right[event])
            self.assertEqual(stamps(log, counters), [(one, right[one]) for one in sorted(marked_events(log))])

    def test_the_stamps_of_counted_events_tell_what_is_ahead(self):
        rng = random.Random(16)
        for log in some_logs(16, 60):
            pairs = ahead_pairs(log)
            counters = random_counters(rng, log)
            for one, other in itertools.product(counted(counters), all_events(log)):
                counter, number = place(counters, one)
                told = one != other and stamp(log, counters, other)[counter] >= number
                self.assertEqual(told, (one, other) in pairs)

    def test_events_that_are_not_there(self):
        for absent in (("a", 3), ("a", -1), ("d", 0), ("", 0)):
            for event in (absent, list(absent)):
                with self.assertRaises(NoEvent) as caught:
                    stamp(LOG, COUNTERS, event)
                self.assertEqual(repr(caught.exception.event), repr(absent))
        with self.assertRaises(NoEvent):
            stamp(EMPTY, (), ("a", 0))


class Handed(unittest.TestCase):
    def test_handed(self):
        self.assertEqual(handed(()), [])
        self.assertEqual(handed(((), ())), [])
        self.assertEqual(handed(((("a", 0),), ())), [])
        self.assertEqual(handed(COUNTERS[:1]), [])
        self.assertEqual(handed(((),) + COUNTERS), [(2, ("b", 0), ("c", 1))])

    def test_handed_ascends_where_the_row_does_not(self):
        row = (("c", 0), ("b", 0), ("a", 0), ("a", 1), ("c", 2))
        self.assertEqual(
            handed(((("z", 0), ("y", 1)), row)),
            [
                (0, ("z", 0), ("y", 1)), (1, ("a", 1), ("c", 2)), (1, ("b", 0), ("a", 0)),
                (1, ("c", 0), ("b", 0)),
            ],
        )

    def test_at_random(self):
        rng = random.Random(17)
        for log in some_logs(17, 60):
            counters = random_counters(rng, log)
            right = [
                (index, row[at - 1], row[at])
                for index, row in enumerate(counters) for at in range(1, len(row))
                if row[at - 1][0] != row[at][0]
            ]
            self.assertEqual(handed(counters), sorted(right))


if __name__ == "__main__":
    unittest.main()
