"""more.py: [10]."""

import itertools
import unittest

from fewstamps.data import is_log
from fewstamps.errors import Backwards, NoEvent, NoMessage
from fewstamps.more import (
    best_message, costs, needless, saving, sides, widest_with, width, with_message, without_message,
)
from tests.brute import all_cuts, drawn_logs, full_logs, renamed_order
from tests.helpers import (
    BARE_MACHINES, BOUND, EMPTY, LOG, LOGS, MANY_MESSAGES, UNMARKED, WAYS, ahead_pairs, all_events, listed,
    marked_events, mixed,
)

WITHOUT_MARKED = (EMPTY, BARE_MACHINES, UNMARKED)
ABSENT = (("a", 3), ("a", -1), ("d", 0), ("", 0), ("a", 10**30))
# One message can save two counters.
DOUBLE = ((("a", 1, (0,)), ("b", 1, (0,)), ("c", 1, (0,)), ("d", 1, (0,)), ("m", 2, ())), (
    (("a", 0), ("m", 0)), (("b", 0), ("m", 0)), (("m", 1), ("c", 0)), (("m", 1), ("d", 0)),
))


def some_logs(seed, many, most=7):
    return list(LOGS[:6]) + drawn_logs(seed, many, 0, most)


def right_width(log):
    return max(len(cut) for cut in all_cuts(*renamed_order(log)))


def with_one(log, one, other):
    """The LOG with this message, too."""
    return log[0], tuple(sorted(set(log[1]) | {(one, other)}))


def without_one(log, message):
    return log[0], tuple(other for other in log[1] if other != message)


def fitting_pairs(log):
    pairs = ahead_pairs(log)
    return [
        (one, other) for one, other in itertools.product(all_events(log), repeat=2)
        if one[0] != other[0] and (other, one) not in pairs
    ]


def right_sides(log, one, other):
    names, pairs = renamed_order(log)
    every = ahead_pairs(log)
    cuts = all_cuts(names, pairs)
    first = [cut for cut in cuts if not any(event == one or (event, one) in every for event in cut)]
    second = [cut for cut in cuts if not any(event == other or (other, event) in every for event in cut)]
    return max(map(len, first)), max(map(len, second))


class Width(unittest.TestCase):
    def test_by_hand(self):
        self.assertEqual(width(LOG), 3)
        self.assertEqual(width(DOUBLE), 2)
        self.assertEqual(width((DOUBLE[0], ())), 4)
        self.assertEqual(width(WAYS), 3)
        self.assertEqual(width(((("a", 9, (3, 4, 5)),), ())), 1)
        for log in WITHOUT_MARKED:
            self.assertEqual(width(log), 0)

    def test_against_all_cuts(self):
        for log in some_logs(61, 100, 12) + [BOUND] + full_logs(62, 10):
            self.assertEqual(width(log), right_width(log))


class Messages(unittest.TestCase):
    def test_with_message(self):
        found = with_message(LOG, ("a", 2), ("b", 0))
        self.assertEqual(found, (LOG[0], ((("a", 0), ("b", 1)), (("a", 2), ("b", 0)), (("b", 1), ("c", 1)))))
        self.assertEqual(with_message(LOG, ("a", 0), ("b", 1)), LOG)
        self.assertEqual(with_message(UNMARKED, ("b", 0), ("a", 1))[1], UNMARKED[1] + ((("b", 0), ("a", 1)),))

    def test_all_of_small_ones(self):
        for log in some_logs(63, 25):
            fitting = set(fitting_pairs(log))
            for one, other in itertools.product(all_events(log), repeat=2):
                if (one, other) in fitting:
                    found = with_message(log, one, other)
                    self.assertEqual(found, with_one(log, one, other))
                    self.assertIs(is_log(found), True)
                    self.assertEqual(with_message(found, one, other), found)
                else:
                    for call in (with_message, widest_with, sides):
                        with self.assertRaises(Backwards) as caught:
                            call(log, list(one), list(other))
                        kept = (caught.exception.one, caught.exception.other)
                        self.assertEqual(repr(kept), repr((one, other)))

    def test_what_does_not_fit(self):
        for one, other in (
            (("b", 2), ("a", 0)), (("a", 0), ("a", 1)), (("a", 1), ("a", 0)), (("a", 0), ("a", 0)),
            (("c", 1), ("a", 0)), (("b", 1), ("a", 0)),
        ):
            for call in (with_message, widest_with, sides):
                with self.assertRaises(Backwards) as caught:
                    call(LOG, one, other)
                self.assertEqual((caught.exception.one, caught.exception.other), (one, other))

    def test_events_that_are_not_there_ahead_of_all_else(self):
        for absent in ABSENT:
            for call in (with_message, widest_with, sides):
                for one, other in ((absent, ("a", 0)), (("c", 1), absent), (absent, ("zz", 7)), (absent, absent)):
                    for how in (tuple, list):
                        with self.assertRaises(NoEvent) as caught:
                            call(LOG, how(one), how(other))
                        self.assertEqual(repr(caught.exception.event), repr(absent))
        for log in (EMPTY, BARE_MACHINES):
            with self.assertRaises(NoEvent):
                with_message(log, ("a", 0), ("b", 0))

    def test_lists_come_out_as_tuples(self):
        for how in (listed, mixed):
            for one, other in ((("a", 0), ("b", 1)), (("a", 2), ("b", 0))):
                self.assertEqual(with_message(how(LOG), list(one), list(other)), with_message(LOG, one, other))
            self.assertEqual(without_message(how(LOG), how(LOG[1][0])), (LOG[0], LOG[1][1:]))

    def test_without_message(self):
        for log in some_logs(64, 40) + [BOUND]:
            for message in log[1]:
                self.assertEqual(without_message(log, message), without_one(log, message))

    def test_messages_that_are_not_there(self):
        for message in (
            (("a", 0), ("b", 0)), (("b", 1), ("a", 0)), (("a", 9), ("b", 1)), (("q", 0), ("r", -1)),
            (("a", 0), ("a", 1)),
        ):
            for how in (tuple, listed, mixed):
                with self.assertRaises(NoMessage) as caught:
                    without_message(LOG, how(message))
                self.assertEqual(repr(caught.exception.message), repr(message))
        with self.assertRaises(NoMessage):
            without_message(EMPTY, (("a", 0), ("b", 0)))


class WithOneMore(unittest.TestCase):
    def test_widest_with(self):
        self.assertEqual(widest_with(LOG, ("a", 0), ("b", 1)), (("a", 0), ("b", 0), ("c", 0)))
        self.assertEqual(widest_with(UNMARKED, ("b", 0), ("a", 1)), ())
        for log in some_logs(65, 25):
            for one, other in fitting_pairs(log):
                cuts = all_cuts(*renamed_order(with_one(log, one, other)))
                most = max(map(len, cuts))
                right = min(cut for cut in cuts if len(cut) == most)
                self.assertEqual(widest_with(log, one, other), right, (log, one, other))

    def test_widest_with_at_the_bounds(self):
        for log in [BOUND] + full_logs(66, 3):
            for one, other in fitting_pairs(log)[::9]:
                cuts = all_cuts(*renamed_order(with_one(log, one, other)))
                most = max(map(len, cuts))
                self.assertEqual(widest_with(log, one, other), min(cut for cut in cuts if len(cut) == most))

    def test_sides(self):
        self.assertEqual(sides(UNMARKED, ("b", 0), ("a", 1)), (0, 0))
        for log in some_logs(67, 25) + [BOUND]:
            for one, other in fitting_pairs(log)[:80]:
                self.assertEqual(sides(log, one, other), right_sides(log, one, other))

    def test_the_width_with_it_is_the_greater_side(self):
        for log in some_logs(68, 25):
            for one, other in fitting_pairs(log):
                self.assertEqual(max(sides(log, one, other)), right_width(with_one(log, one, other)))


class Saving(unittest.TestCase):
    def right(self, log):
        wide = right_width(log)
        found = [(one, other, wide - right_width(with_one(log, one, other))) for one, other in fitting_pairs(log)]
        return sorted(triple for triple in found if triple[2] > 0)

    def test_against_all_messages(self):
        seen = {True: 0, False: 0}
        for log in some_logs(69, 60) + [DOUBLE, (DOUBLE[0], ())] + drawn_logs(70, 5, 9, 12):
            right = self.right(log)
            seen[bool(right)] += 1
            self.assertEqual(saving(log), right, log)
            best = [(-many, one, other) for one, other, many in right]
            self.assertEqual(best_message(log), min(best)[1:] if best else None)
        self.assertGreater(min(seen.values()), 10)

    def test_several_counters_at_once(self):
        log = (DOUBLE[0], DOUBLE[1][:2] + ((("n", 0), ("c", 0)), (("n", 0), ("d", 0))))
        log = (log[0] + (("n", 1, ()),), log[1])
        self.assertEqual(width(log), 4)
        self.assertEqual(best_message(log), (("m", 0), ("n", 0)))
        self.assertIn((("m", 0), ("n", 0), 2), saving(log))
        self.assertIn((("a", 0), ("n", 0), 1), saving(log))

    def test_nothing_to_save(self):
        for log in WITHOUT_MARKED + (((("a", 2, (0, 1)), ("b", 1, ())), ()),):
            self.assertEqual(saving(log), [])
            self.assertIs(best_message(log), None)


class Less(unittest.TestCase):
    def test_needless_by_hand(self):
        self.assertEqual(
            needless(MANY_MESSAGES),
            [(("p", 0), ("r", 2))],
        )
        # Each of the two would do alone.
        log = (
            (("a", 2, (0, 1)), ("b", 2, (0, 1)), ("c", 1, (0,))),
            ((("a", 0), ("b", 0)), (("a", 0), ("c", 0)), (("b", 0), ("c", 0)), (("b", 1), ("a", 1))),
        )
        self.assertEqual(needless(log), [(("a", 0), ("c", 0))])
        # It changes what is ahead of EVENTs that are not marked: needed all the same.
        self.assertEqual(needless(UNMARKED), [])
        self.assertEqual(costs(UNMARKED), [((("a", 0), ("b", 0)), 0)])

    def test_against_all_messages(self):
        found = 0
        for log in some_logs(71, 120, 12) + [BOUND] + full_logs(72, 20):
            pairs = ahead_pairs(log)
            right = [message for message in log[1] if ahead_pairs(without_one(log, message)) == pairs]
            found += len(right)
            self.assertEqual(needless(log), right, log)
        self.assertGreater(found, 30)

    def test_costs(self):
        dear = 0
        for log in some_logs(73, 220) + [BOUND, DOUBLE]:
            wide = right_width(log)
            right = [(message, right_width(without_one(log, message)) - wide) for message in log[1]]
            dear += len([many for _, many in right if many])
            self.assertEqual(costs(log), right)
        self.assertGreater(dear, 20)

    def test_without_messages(self):
        for log in (EMPTY, BARE_MACHINES, ((("a", 2, (0, 1)), ("b", 1, (0,))), ())):
            self.assertEqual((needless(log), costs(log)), ([], []))

    def test_marks_do_not_tell_what_is_needless(self):
        for log in drawn_logs(74, 30, 0, 12):
            bare = (tuple((name, many, ()) for name, many, _ in log[0]), log[1])
            self.assertEqual(needless(bare), needless(log))
            self.assertEqual(marked_events(bare), [])


if __name__ == "__main__":
    unittest.main()
