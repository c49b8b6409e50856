"""data.py: [4]."""

import itertools
import random
import unittest

from fewstamps.data import coming, events, is_ahead, is_log, marked, past, way
from fewstamps.errors import NoEvent, NotAhead
from tests.helpers import (
    BARE_MACHINES, BOUND, EMPTY, JUNK, LOG, LOGS, MANY_MESSAGES, UNMARKED, WAYS,
    ahead_pairs, all_events, coming_order, listed, marked_events, mixed,
    random_logs, random_machines, ways_from,
)

ABSENT = (("a", 3), ("a", -1), ("b", 3), ("c", 2), ("d", 0), ("aa", 0), ("", 0), ("a", 10**30))


class IsLog(unittest.TestCase):
    def yes(self, thing):
        self.assertIs(is_log(thing), True, thing)

    def no(self, thing):
        self.assertIs(is_log(thing), False, thing)

    def test_logs(self):
        for log in LOGS + tuple(random_logs(1, 200)):
            self.yes(log)

    def test_values_of_other_kinds_and_forms(self):
        for thing in JUNK:
            self.no(thing)
            self.no((thing, ()))
            self.no(((), thing))
            self.no(((thing,), ()))
            self.no((LOG[0], (thing,)))
            if thing not in ((), (0,)):
                self.no(((("a", 1, thing),), ()))
            if not isinstance(thing, int) or isinstance(thing, bool):
                self.no(((("a", thing, ()),), ()))

    def test_lists_are_no_logs(self):
        for log in LOGS:
            self.no(listed(log))
            self.no(list(log))
        self.no(mixed(LOG))
        self.no((list(LOG[0]), LOG[1]))
        self.no((LOG[0], list(LOG[1])))
        self.no(((["a", 1, ()],), ()))
        self.no(((("a", 1, []),), ()))
        self.no(((("a", 1, ()), ("b", 1, ())), ([("a", 0), ("b", 0)],)))
        self.no(((("a", 1, ()), ("b", 1, ())), ((["a", 0], ("b", 0)),)))
        self.no(((("a", 1, ()), ("b", 1, ())), ((("a", 0), ["b", 0]),)))

    def test_pairs_alone(self):
        self.no(())
        self.no((LOG[0],))
        self.no(LOG + ((),))

    def test_names(self):
        for name in ("a", "z", "az", "abcdefgh", "zzzzzzzz"):
            self.yes((((name, 1, ()),), ()))
        for name in (
            "", "abcdefghi", "A", "aB", "a1", "a b", " a", "a\n", "_", "`", "{", "\xe9", "\xdf",
            "\u0430", "\u00b5", 0, None, True, ("a",), ["a"], ("a", "b"),
        ):
            self.no((((name, 1, ()),), ()))

    def test_how_many(self):
        for many in (0, 1, 17, 10**30):
            self.yes(((("a", many, ()),), ()))
        for many in (-1, True, False, None, "1", (1,), 1.0):
            self.no(((("a", many, ()),), ()))

    def test_marks(self):
        for marks in ((), (0,), (2,), (0, 2), (0, 1, 2)):
            self.yes(((("a", 3, marks),), ()))
        for marks in (
            (3,), (-1,), (0, 3), (-1, 0), (1, 0), (0, 0), (0, 2, 1), (True,), (False,), (0, True),
            (False, 1), (None,), ("0",), ((0,),), [0], 0, "0", None, True,
        ):
            self.no(((("a", 3, marks),), ()))
        self.no(((("a", 0, (0,)),), ()))

    def test_machines_are_triples(self):
        self.no(((("a", 1),), ()))
        self.no(((("a", 1, (), ()),), ()))
        self.no((("a", 1, ()), ()))

    def test_machines_ascend_with_different_names(self):
        self.yes(((("a", 0, ()), ("aa", 0, ()), ("b", 0, ())), ()))
        self.no(((("b", 0, ()), ("a", 0, ())), ()))
        self.no(((("a", 0, ()), ("c", 0, ()), ("b", 0, ())), ()))
        self.no(((("a", 0, ()), ("a", 0, ())), ()))
        self.no(((("a", 0, ()), ("a", 1, ())), ()))

    def test_messages(self):
        machines = (("a", 2, ()), ("b", 2, (1,)))
        sent, late, come = ("a", 0), ("a", 1), ("b", 1)
        self.yes((machines, ((sent, come),)))
        self.yes((machines, ((sent, come), (late, come))))
        self.yes((machines, ((sent, ("b", 0)), (sent, come))))
        self.yes((machines, ((sent, come), (("b", 0), late))))
        self.no((machines, ((sent, come), (sent, come))))
        self.no((machines, ((late, come), (sent, come))))
        self.no((machines, ((sent, late),)))
        self.no((machines, ((sent, sent),)))
        self.no((machines, ((sent, come, come),)))
        self.no((machines, ((sent,),)))
        self.no((machines, (sent, come)))
        self.no((machines, (sent + come,)))

    def test_messages_of_events_that_are_not_there(self):
        machines = (("a", 2, ()), ("b", 2, ()))
        for absent in (
            ("a", 2), ("a", -1), ("c", 0), ("", 0), ("a", True), ("a", False), ("a", None), ("a", "0"),
            ("a",), ("a", 0, 0), "a0", "a", None, 0, True, ["a", 0], (["a"], 0), (("a",), 0), ("a", (0,)),
        ):
            self.no((machines, ((absent, ("b", 1)),)))
            self.no((machines, ((("b", 0), absent),)))
        self.no(((("a", 0, ()), ("b", 1, ())), ((("a", 0), ("b", 0)),)))

    def test_rings(self):
        two = (("a", 3, ()), ("b", 3, ()))
        three = two + (("c", 2, ()),)
        self.no((two, ((("a", 0), ("b", 0)), (("b", 0), ("a", 0)))))
        self.no((two, ((("a", 2), ("b", 0)), (("b", 2), ("a", 0)))))
        self.no((two, ((("a", 1), ("b", 1)), (("b", 2), ("a", 1)))))
        self.yes((two, ((("a", 1), ("b", 2)), (("b", 1), ("a", 1)))))
        self.yes((two, ((("a", 0), ("b", 1)), (("b", 0), ("a", 1)))))
        self.no((three, ((("a", 1), ("b", 1)), (("b", 1), ("c", 0)), (("c", 1), ("a", 0)))))
        self.yes((three, ((("a", 1), ("b", 1)), (("b", 1), ("c", 1)), (("c", 0), ("a", 0)))))

    def test_rings_and_their_lack_at_random(self):
        rng = random.Random(2)
        found = {True: 0, False: 0}
        for _ in range(400):
            machines = random_machines(rng)
            every = all_events((machines, ()))
            pairs = [(one, other) for one in every for other in every if one[0] != other[0]]
            messages = tuple(sorted(rng.sample(pairs, min(len(pairs), rng.randint(0, 6)))))
            log = (machines, messages)
            right = not any(one == other for one, other in ahead_pairs(log))
            self.assertIs(is_log(log), right, log)
            found[right] += 1
        self.assertGreater(min(found.values()), 50)

    def test_beyond_the_bounds(self):
        names = sorted(a + b for a in "abcdef" for b in "abcdef")
        machines = tuple((name, 10**20, tuple(range(0, 100, 3))) for name in names)
        far = 10**19
        messages = tuple(
            ((one, far + number), (other, far + number))
            for one, other in zip(names, names[1:]) for number in range(10)
        )
        self.assertIs(is_log((machines, messages)), True)
        for sent, come, right in ((0, 1, True), (8, 9, True), (5, 5, False), (9, 0, False), (1, 10**19, True)):
            back = ((names[-1], far + sent), (names[0], far + come))
            self.assertIs(is_log((machines, messages + (back,))), right)


class Lists(unittest.TestCase):
    def test_events_and_marked(self):
        self.assertEqual(events(EMPTY), [])
        self.assertEqual(marked(EMPTY), [])
        self.assertEqual(events(BARE_MACHINES), [])
        self.assertEqual(events(UNMARKED), [("a", 0), ("a", 1), ("b", 0)])
        self.assertEqual(marked(UNMARKED), [])
        self.assertEqual(len(events(BOUND)), 16)
        self.assertEqual(len(marked(BOUND)), 12)
        for log in LOGS + tuple(random_logs(3, 50)):
            self.assertEqual(events(log), sorted(all_events(log)))
            self.assertEqual(marked(log), sorted(marked_events(log)))

    def test_coming(self):
        self.assertEqual(coming(EMPTY), [])
        self.assertEqual(coming(BARE_MACHINES), [])
        self.assertEqual(
            coming(LOG),
            [("a", 0), ("a", 1), ("a", 2), ("b", 0), ("b", 1), ("b", 2), ("c", 0), ("c", 1)],
        )
        back = ((("a", 2, ()), ("b", 2, ())), ((("b", 0), ("a", 0)),))
        self.assertEqual(coming(back), [("b", 0), ("a", 0), ("a", 1), ("b", 1)])
        for log in LOGS + tuple(random_logs(4, 150)):
            self.assertEqual(coming(log), coming_order(log))

    def test_coming_beyond_the_bounds(self):
        log = ((("a", 60, ()), ("b", 60, ())), ((("b", 59), ("a", 0)),))
        self.assertEqual(coming(log)[:60], [("b", number) for number in range(60)])


class Ahead(unittest.TestCase):
    def test_is_ahead_and_past(self):
        for log in LOGS + tuple(random_logs(5, 60)):
            pairs = ahead_pairs(log)
            every = all_events(log)
            for other in every:
                self.assertEqual(past(log, other), [one for one in every if (one, other) in pairs])
                for one in every:
                    self.assertIs(is_ahead(log, one, other), (one, other) in pairs)

    def test_no_event_is_ahead_of_itself(self):
        for event in all_events(LOG):
            self.assertIs(is_ahead(LOG, event, event), False)
            self.assertNotIn(event, past(LOG, event))

    def test_several_messages_of_one_event(self):
        self.assertEqual(
            past(MANY_MESSAGES, ("r", 2)),
            [("p", 0), ("p", 1), ("q", 0), ("q", 1), ("r", 0), ("r", 1)],
        )
        self.assertEqual(past(MANY_MESSAGES, ("r", 1)), [("p", 0), ("r", 0)])

    def test_is_ahead_raises_for_the_first_that_is_not_there(self):
        for absent in ABSENT:
            for one, other in ((absent, ("a", 0)), (("a", 0), absent), (absent, ("zz", 7)), (absent, absent)):
                with self.assertRaises(NoEvent) as caught:
                    is_ahead(LOG, one, other)
                self.assertEqual(caught.exception.event, absent)

    def test_past_raises(self):
        for absent in ABSENT:
            with self.assertRaises(NoEvent) as caught:
                past(LOG, absent)
            self.assertEqual(caught.exception.event, absent)
        for log in (EMPTY, BARE_MACHINES):
            with self.assertRaises(NoEvent):
                past(log, ("a", 0))


class Way(unittest.TestCase):
    def test_ways(self):
        self.assertEqual(way(LOG, ("a", 0), ("a", 1)), (("a", 0), ("a", 1)))
        self.assertEqual(way(LOG, ("b", 0), ("c", 1)), (("b", 0), ("b", 1), ("c", 1)))

    def test_the_shortest_is_taken_even_if_it_is_not_the_least(self):
        log = ((("a", 3, ()), ("b", 2, ())), ((("a", 0), ("b", 1)), (("a", 2), ("b", 0))))
        self.assertEqual(way(log, ("a", 0), ("b", 1)), (("a", 0), ("b", 1)))

    def test_of_ways_as_short_as_each_other_the_least(self):
        self.assertEqual(way(WAYS, ("p", 0), ("s", 0)), (("p", 0), ("q", 1), ("s", 0)))
        self.assertEqual(way(WAYS, ("p", 0), ("q", 1)), (("p", 0), ("q", 1)))
        # The least first step leads to no short way here: it goes over r.
        log = (
            (("p", 1, ()), ("q", 3, ()), ("r", 1, ()), ("s", 1, ())),
            ((("p", 0), ("q", 0)), (("p", 0), ("r", 0)), (("q", 2), ("s", 0)), (("r", 0), ("s", 0))),
        )
        self.assertEqual(way(log, ("p", 0), ("s", 0)), (("p", 0), ("r", 0), ("s", 0)))

    def test_all_ways_are_compared(self):
        ties = 0
        for log in LOGS + tuple(random_logs(6, 60)):
            for one, other in itertools.product(all_events(log), repeat=2):
                right = sorted(ways_from(log, one, other), key=lambda row: (len(row), row))
                if right:
                    self.assertEqual(way(log, one, other), right[0])
                    ties += len([row for row in right if len(row) == len(right[0])]) > 1
                else:
                    with self.assertRaises(NotAhead) as caught:
                        way(log, one, other)
                    self.assertEqual((caught.exception.one, caught.exception.other), (one, other))
        self.assertGreater(ties, 10)

    def test_not_ahead(self):
        for one, other in (
            (("a", 0), ("a", 0)), (("b", 1), ("b", 1)), (("a", 1), ("a", 0)), (("a", 1), ("b", 2)),
            (("b", 1), ("a", 0)), (("c", 0), ("a", 2)),
        ):
            with self.assertRaises(NotAhead) as caught:
                way(LOG, one, other)
            self.assertEqual((caught.exception.one, caught.exception.other), (one, other))

    def test_events_that_are_not_there_are_told_ahead_of_all_else(self):
        for absent in ABSENT:
            for one, other in ((absent, ("a", 0)), (("c", 1), absent), (absent, ("zz", 7)), (absent, absent)):
                with self.assertRaises(NoEvent) as caught:
                    way(LOG, one, other)
                self.assertEqual(caught.exception.event, absent)

    def test_errors_keep_tuples(self):
        with self.assertRaises(NoEvent) as caught:
            way(listed(LOG), ["a", 0], ["q", -2])
        self.assertEqual(repr(caught.exception.event), "('q', -2)")
        with self.assertRaises(NotAhead) as caught:
            way(listed(LOG), ["a", 1], ["b", 0])
        kept = (caught.exception.one, caught.exception.other)
        self.assertEqual(repr(kept), "(('a', 1), ('b', 0))")
        for call in (is_ahead, way):
            with self.assertRaises(NoEvent) as caught:
                call(LOG, ["a", 9], ["a", 0])
            self.assertEqual(repr(caught.exception.event), "('a', 9)")
        with self.assertRaises(NoEvent) as caught:
            past(LOG, ["a", 9])
        self.assertEqual(repr(caught.exception.event), "('a', 9)")


if __name__ == "__main__":
    unittest.main()
