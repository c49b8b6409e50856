"""shape.py: [6]."""

import unittest

from fewstamps.shape import (
    best_counters, best_cuts, fewest_for, fits, fitting, gains, in_every, in_none, most_counted,
    most_cut, raised,
)
from tests.brute import (
    all_cuts, all_rows, are_cuts, are_rows, bits_of, do_fit, drawn_logs, families, full_logs, most_by,
    renamed_order, sets_by, size, unions,
)
from tests.helpers import (
    BARE_MACHINES, BOUND, COUNTERS, EMPTY, JUNK, LOG, LOGS, MANY_MESSAGES, UNMARKED, coming_order, listed,
    marked_events,
)

WITHOUT_MARKED = (EMPTY, BARE_MACHINES, UNMARKED)
CUTS = ((("a", 0), ("b", 0), ("c", 0)), (("a", 1), ("b", 2), ("c", 1)))
# The longest ROW is p 0, p 1, q 1, q 2; it leaves two EVENTs that are beside each other. But two ROWs of three
# count all.
CROSSED = ((("p", 3, (0, 1, 2)), ("q", 3, (0, 1, 2))), ((("p", 1), ("q", 1)),))


def brute_gains(names, parts):
    """By how much the most on so many parts grows, as long as it does."""
    found, last = [], 0
    while True:
        most = most_by(sets_by(names, parts, len(found) + 1))
        if most == last:
            return found
        found.append(most - last)
        last = most


def some_logs(seed, many, most=8):
    return list(LOGS[:6]) + drawn_logs(seed, many, 0, most)


class Gains(unittest.TestCase):
    def test_without_marked_events(self):
        for log in WITHOUT_MARKED:
            self.assertEqual(gains(log), [])
            self.assertEqual(raised(log), [])
            for many in (0, 1, 5):
                self.assertEqual(most_counted(log, many), 0)
                self.assertEqual(most_cut(log, many), 0)
                self.assertEqual(in_every(log, many), [])
                self.assertEqual(in_none(log, many), [])
                self.assertEqual(best_counters(log, many), ((),) * many)
                self.assertEqual(best_cuts(log, many), ((),) * many)
                self.assertEqual(fewest_for(log, many), None if many else 0)

    def test_by_hand(self):
        self.assertEqual(gains(LOG), [3, 2, 2])
        self.assertEqual(gains(CROSSED), [4, 2])
        self.assertEqual(gains(((("a", 4, (0, 2, 3)),), ())), [3])
        self.assertEqual(gains(((("a", 1, (0,)), ("b", 1, (0,)), ("c", 1, (0,))), ())), [1, 1, 1])

    def test_most_by_hand(self):
        self.assertEqual([most_counted(LOG, many) for many in range(6)], [0, 3, 5, 7, 7, 7])
        self.assertEqual([most_cut(LOG, many) for many in range(6)], [0, 3, 6, 7, 7, 7])

    def test_against_all_rows_and_all_cuts(self):
        for log in some_logs(21, 60):
            names, pairs = renamed_order(log)
            rows, cuts = all_rows(names, pairs), all_cuts(names, pairs)
            self.assertEqual(gains(log), brute_gains(names, rows), log)
            for many in range(5):
                self.assertEqual(most_counted(log, many), most_by(sets_by(names, rows, many)))
                self.assertEqual(most_cut(log, many), most_by(sets_by(names, cuts, many)))

    def test_at_the_bounds_against_all_rows(self):
        for log in [BOUND, MANY_MESSAGES] + full_logs(22, 4):
            names, pairs = renamed_order(log)
            self.assertEqual(gains(log), brute_gains(names, all_rows(names, pairs)))

    def test_never_rising_and_all_together_all(self):
        for log in full_logs(23, 40):
            found = gains(log)
            self.assertEqual(found, sorted(found, reverse=True))
            self.assertEqual(sum(found), 12)
            self.assertEqual(most_counted(log, 12), 12)
            self.assertEqual(most_cut(log, 12), 12)

    def test_two_best_rows_need_not_have_the_best_one(self):
        self.assertEqual([len(row) for row in best_counters(CROSSED, 1)], [4])
        self.assertEqual(sorted(len(row) for row in best_counters(CROSSED, 2)), [3, 3])


class Best(unittest.TestCase):
    def test_they_do(self):
        for log in some_logs(24, 60) + [BOUND] + full_logs(25, 20):
            names, pairs = renamed_order(log)
            for many in (0, 1, 2, 3, 5, 12):
                rows, cuts = best_counters(log, many), best_cuts(log, many)
                self.assertTrue(are_rows(names, pairs, rows), rows)
                self.assertTrue(are_cuts(names, pairs, cuts), cuts)
                self.assertEqual((len(rows), len(cuts)), (many, many))
                self.assertEqual(sum(map(len, rows)), most_counted(log, many))
                self.assertEqual(sum(map(len, cuts)), most_cut(log, many))

    def test_more_than_the_widest_cut_has(self):
        rows = best_counters(LOG, 6)
        self.assertEqual(sorted(event for row in rows for event in row), marked_events(LOG))
        self.assertEqual(len([row for row in rows if row]), 3)


class Fitting(unittest.TestCase):
    def exactly(self, log, many, height):
        grown = gains(log) + [0] * (many + 1)
        return grown[many] <= height and (many == 0 or height <= grown[many - 1])

    def test_there_is_one_exactly_where_the_document_says(self):
        for log in some_logs(26, 60) + [BOUND] + full_logs(27, 15):
            names, pairs = renamed_order(log)
            for many in range(8):
                for height in list(range(9)) + [12]:
                    found = fitting(log, many, height)
                    self.assertEqual(found is not None, self.exactly(log, many, height), (log, many, height))
                    if found is not None:
                        self.assertIsInstance(found, tuple)
                        rows, cuts = found
                        self.assertEqual((len(rows), len(cuts)), (many, height))
                        self.assertTrue(are_rows(names, pairs, rows))
                        self.assertTrue(are_cuts(names, pairs, cuts))
                        self.assertTrue(do_fit(names, rows, cuts))
                        self.assertIs(fits(log, found), True)

    def test_against_all_pairs_of_counters_and_cuts(self):
        for log in list(WITHOUT_MARKED) + drawn_logs(28, 25, 1, 5):
            names, pairs = renamed_order(log)
            rows, cuts = all_rows(names, pairs), all_cuts(names, pairs)
            for many in range(4):
                for height in range(4):
                    right = any(
                        do_fit(names, some, others)
                        for some in families(rows, many) for others in families(cuts, height)
                    )
                    self.assertEqual(fitting(log, many, height) is not None, right, (log, many, height))

    def test_no_counters_and_no_cuts(self):
        self.assertEqual(fitting(EMPTY, 0, 0), ((), ()))
        self.assertEqual(fitting(EMPTY, 2, 0), (((), ()), ()))
        self.assertEqual(fitting(EMPTY, 0, 2), ((), ((), ())))
        self.assertIs(fitting(EMPTY, 1, 1), None)
        self.assertIs(fitting(LOG, 0, 2), None)
        self.assertEqual(len(fitting(LOG, 0, 3)[1]), 3)
        self.assertEqual(fitting(LOG, 12, 0)[1], ())
        self.assertIs(fitting(LOG, 12, 1), None)
        self.assertIs(fitting(LOG, 2, 0), None)


class Fits(unittest.TestCase):
    def test_fits(self):
        for thing in (
            (COUNTERS, CUTS), (COUNTERS, CUTS[::-1]), (COUNTERS[::-1], CUTS),
            (COUNTERS[:1], CUTS), (COUNTERS + ((("b", 2),), (("c", 0),)), ()),
            (COUNTERS + ((("b", 2),), (("c", 0),), ()), ()),
            ((), CUTS + ((("a", 2),),)), ((), CUTS + ((), (("a", 2),))),
        ):
            self.assertIs(fits(LOG, thing), True, thing)

    def test_fits_not(self):
        for thing in (
            (COUNTERS, ()), ((), CUTS), (COUNTERS, CUTS[:1]), (COUNTERS + ((),), CUTS), (COUNTERS, CUTS + ((),)),
            (COUNTERS[1:], CUTS), ((), ()), (CUTS, COUNTERS), (COUNTERS,), (COUNTERS, CUTS, ()),
            (COUNTERS, (CUTS[0], CUTS[0])), ((COUNTERS[0], COUNTERS[0]), CUTS),
            (COUNTERS, (CUTS[0][::-1], CUTS[1])), ((COUNTERS[0][::-1], COUNTERS[1]), CUTS),
            # One EVENT in two CUTs, on two ROWs.
            (COUNTERS, CUTS + ((("a", 1),),)), (COUNTERS + ((("b", 0),),), CUTS),
            ((), CUTS + ((("a", 2),), (("a", 2),))), (COUNTERS + ((("b", 2),), (("c", 0),), (("c", 0),)), ()),
            # An unmarked EVENT.
            ((COUNTERS[0], (("b", 0), ("b", 1))), CUTS),
        ):
            self.assertIs(fits(LOG, thing), False, thing)

    def test_values_of_other_kinds_and_forms(self):
        for thing in JUNK:
            self.assertIs(fits(LOG, thing), False, thing)
            self.assertIs(fits(LOG, (COUNTERS, thing)), False, thing)
            self.assertIs(fits(LOG, (thing, CUTS)), False, thing)
            self.assertIs(fits(LOG, (COUNTERS, CUTS, thing)), False, thing)
        for thing in (listed((COUNTERS, CUTS)), [COUNTERS, CUTS], (list(COUNTERS), CUTS), (COUNTERS, list(CUTS))):
            self.assertIs(fits(LOG, thing), False, thing)

    def test_true_is_no_number(self):
        counters = ((("a", False), ("a", True), ("a", 2)), COUNTERS[1])
        self.assertIs(fits(LOG, (counters, CUTS)), False)
        self.assertIs(fits(LOG, (COUNTERS, ((("a", 0), ("b", False), ("c", 0)), CUTS[1]))), False)

    def test_without_marked_events(self):
        for log in WITHOUT_MARKED:
            self.assertIs(fits(log, ((), ())), True)
            self.assertIs(fits(log, (((), ()), ())), True)
            self.assertIs(fits(log, ((), ((),))), True)
            self.assertIs(fits(log, (((),), ((),))), False)

    def test_more_than_twelve(self):
        rows = tuple((event,) for event in marked_events(LOG)) + ((),) * 20
        self.assertIs(fits(LOG, (rows, ())), True)
        self.assertIs(fits(LOG, ((), rows)), True)

    def test_all_pairs_of_small_ones(self):
        seen = {True: 0, False: 0}
        for log in drawn_logs(29, 12, 1, 4):
            names, pairs = renamed_order(log)
            for many in range(3):
                for height in range(3):
                    for rows in families(all_rows(names, pairs), many):
                        for cuts in families(all_cuts(names, pairs), height):
                            right = do_fit(names, rows, cuts)
                            seen[right] += 1
                            self.assertIs(fits(log, (rows, cuts)), right)
        self.assertGreater(min(seen.values()), 30)


class Fewest(unittest.TestCase):
    def test_by_hand(self):
        self.assertEqual(
            [fewest_for(LOG, many) for many in range(10)], [0, 1, 1, 1, 2, 2, 3, 3, None, None],
        )

    def test_against_all_rows(self):
        for log in some_logs(30, 40):
            names, pairs = renamed_order(log)
            rows = all_rows(names, pairs)
            most = [most_by(sets_by(names, rows, many)) for many in range(len(names) + 1)]
            for many in range(len(names) + 1):
                right = min(counters for counters, far in enumerate(most) if far >= many)
                self.assertEqual(fewest_for(log, many), right)
            self.assertIs(fewest_for(log, len(names) + 1), None)


class InEvery(unittest.TestCase):
    def check(self, log, most):
        names, pairs = renamed_order(log)
        rows = [bits_of(names, row) for row in all_rows(names, pairs)]
        found = {0}
        for many in range(most + 1):
            if many:
                found = unions(found, rows)
            top = most_by(found)
            best = [bits for bits in found if size(bits) == top]
            right = [name for name in names if all(bits & bits_of(names, [name]) for bits in best)]
            self.assertEqual(in_every(log, many), right, (log, many))
            right = [name for name in names if not any(bits & bits_of(names, [name]) for bits in best)]
            self.assertEqual(in_none(log, many), right, (log, many))

    def test_against_all_rows(self):
        for log in some_logs(31, 60):
            self.check(log, 4)

    def test_at_the_bounds(self):
        for log in [BOUND] + full_logs(32, 3):
            self.check(log, 3)

    def test_none_and_more_than_enough(self):
        self.assertEqual(in_every(LOG, 0), [])
        self.assertEqual(in_none(LOG, 0), marked_events(LOG))
        for many in (3, 4, 12):
            self.assertEqual(in_every(LOG, many), marked_events(LOG))
            self.assertEqual(in_none(LOG, many), [])


class Raised(unittest.TestCase):
    def test_by_hand(self):
        self.assertEqual(
            raised(LOG),
            [
                (("a", 0), 1), (("a", 1), 1), (("a", 2), 1), (("b", 0), 2), (("b", 2), 2), (("c", 0), 3),
                (("c", 1), 3),
            ],
        )

    def test_in_the_order_of_coming(self):
        log = ((("a", 1, (0,)), ("b", 2, (0, 1))), ((("b", 1), ("a", 0)),))
        self.assertEqual(raised(log), [(("b", 0), 1), (("b", 1), 1), (("a", 0), 1)])

    def test_against_all_rows(self):
        for log in some_logs(33, 50):
            names, pairs = renamed_order(log)
            order = [event for event in coming_order(log) if event in names]
            found = raised(log)
            self.assertEqual([event for event, _ in found], order)
            before = []
            for at, (_, grown) in enumerate(found):
                some = order[: at + 1]
                now = brute_gains(some, all_rows(some, pairs))
                right = list(before) + [0] * (grown - len(before))
                right[grown - 1] += 1
                self.assertEqual(now, right)
                before = now

    def test_a_gain_of_a_lower_index_can_grow_later(self):
        # The third EVENT joins the two that were beside each other to one ROW of two.
        log = ((("a", 1, (0,)), ("b", 1, (0,)), ("c", 1, (0,))), ((("a", 0), ("c", 0)), (("b", 0), ("c", 0))))
        self.assertEqual(raised(log), [(("a", 0), 1), (("b", 0), 2), (("c", 0), 1)])

    def test_at_the_bounds_it_adds_up(self):
        for log in full_logs(35, 20):
            found = raised(log)
            total = [0] * 6
            for _, grown in found:
                total[grown - 1] += 1
            self.assertEqual([many for many in total if many], gains(log))


if __name__ == "__main__":
    unittest.main()
