"""growing.py: [8]."""

import itertools
import random
import unittest

from fewstamps.data import is_log
from fewstamps.growing import (
    bar, bar_kept, barrier, elder_log, fewest_on, gains_on, go_on, going_on, is_bar, is_barrier, is_stand,
    keep, lets, lets_kept, most_kept, new_marked, stair_costs, stairs,
)
from fewstamps.more import width
from fewstamps.shape import gains
from fewstamps.stamps import are_counters
from tests.brute import (
    Growing, all_cuts, all_rows, all_stands, are_rows, choices_of, drawn_growing, drawn_logs, full_growing,
    full_logs, is_new, renamed_order, sets_by,
)
from tests.helpers import (
    BARE_MACHINES, BOUND, EMPTY, JUNK, LOG, LOGS, UNMARKED, ahead_pairs, coming_order, listed, marked_events,
    mixed,
)

STAND = (1, 1, 0)
ELDER = ((("a", 0),), (("b", 0),))
BAR = (((("a", 1), ("c", 0)), (("a", 2), ("b", 2), ("c", 1))), (0, 1))
WITHOUT_MARKED = ((EMPTY, ()), (BARE_MACHINES, (0, 0)), (UNMARKED, (1, 0)), (UNMARKED, (0, 0)))


def of_hand():
    """Small cases with the edges: nothing new, nothing elder, bare ROWs, no counters."""
    found = [Growing(LOG, STAND, ELDER), Growing(LOG, STAND, ()), Growing(LOG, STAND, ((), (("a", 0),), ()))]
    found += [Growing(LOG, (3, 3, 2), ((("b", 0), ("c", 1)), ())), Growing(LOG, (0, 0, 0), ((), ()))]
    found += [Growing(log, stand, counters) for log, stand in WITHOUT_MARKED for counters in ((), ((), ()))]
    return found


class Stands(unittest.TestCase):
    def test_stands(self):
        for thing in ((0, 0, 0), STAND, (1, 2, 0), (3, 3, 2), (1, 2, 2), (0, 1, 1), (3, 0, 0)):
            self.assertIs(is_stand(LOG, thing), True, thing)

    def test_no_stands(self):
        for thing in (
            (0, 2, 0), (1, 1, 2), (0, 0, 2), (4, 0, 0), (0, 0, 3), (-1, 0, 0), (0, 0, -1), (0, 0), (0, 0, 0, 0),
            (), (True, 0, 0), (0, False, 0), (1, True, 0), (None, 0, 0), ("0", 0, 0), ((0,), 0, 0), [0, 0, 0],
            (3, 3, True), ((0, 0, 0),),
        ):
            self.assertIs(is_stand(LOG, thing), False, thing)

    def test_all_of_small_ones(self):
        for log in list(LOGS) + drawn_logs(81, 40, 0, 12):
            right = set(all_stands(log))
            for thing in itertools.product(*[range(-1, machine[1] + 2) for machine in log[0]]):
                self.assertIs(is_stand(log, thing), thing in right, (log, thing))

    def test_values_of_other_kinds_and_forms(self):
        for thing in JUNK:
            self.assertIs(is_stand(LOG, thing), False)
            self.assertIs(is_stand(LOG, (0, 0, thing)), thing in (0, 1) and not isinstance(thing, bool), thing)
            self.assertIs(is_stand(EMPTY, thing), thing == () and isinstance(thing, tuple), thing)

    def test_elder_log(self):
        self.assertEqual(
            elder_log(LOG, (2, 2, 0)),
            ((("a", 2, (0, 1)), ("b", 2, (0,)), ("c", 0, ())), ((("a", 0), ("b", 1)),)),
        )
        self.assertEqual(elder_log(LOG, (0, 0, 0)), ((("a", 0, ()), ("b", 0, ()), ("c", 0, ())), ()))
        self.assertEqual(elder_log(LOG, (3, 3, 2)), LOG)
        self.assertEqual(elder_log(EMPTY, ()), EMPTY)
        self.assertEqual(elder_log(listed(LOG), [3, 3, 2]), LOG)

    def test_elder_logs_and_new_events(self):
        for log in list(LOGS) + drawn_logs(82, 30, 0, 12):
            for stand in all_stands(log)[::3]:
                found = elder_log(log, stand)
                self.assertIs(is_log(found), True)
                self.assertEqual([machine[0] for machine in found[0]], [machine[0] for machine in log[0]])
                self.assertEqual(tuple(machine[1] for machine in found[0]), stand)
                old = [event for event in marked_events(log) if not is_new(log, stand, event)]
                self.assertEqual(marked_events(found), old)
                self.assertEqual(
                    ahead_pairs(found),
                    {pair for pair in ahead_pairs(log) if not any(is_new(log, stand, event) for event in pair)},
                )
                self.assertEqual(
                    found[1], tuple(message for message in log[1] if not is_new(log, stand, message[1])),
                )
                self.assertEqual(
                    new_marked(log, stand), [event for event in marked_events(log) if event not in old],
                )


class GoOn(unittest.TestCase):
    def test_they_go_on(self):
        for thing in (
            ELDER, ELDER + ((),), ELDER + ((("c", 0),),), ((("a", 0), ("b", 2)), ELDER[1]),
            ((("a", 0), ("a", 1), ("a", 2)), (("b", 0), ("c", 1)), (("c", 0),), ()),
        ):
            self.assertIs(go_on(LOG, STAND, ELDER, thing), True, thing)
        self.assertIs(go_on(LOG, STAND, ((),), ((("a", 1),),)), True)
        self.assertIs(go_on(LOG, STAND, (), ()), True)
        self.assertIs(go_on(LOG, STAND, (), ((("c", 0), ("c", 1)),)), True)

    def test_they_do_not(self):
        for thing in (
            (), ELDER[:1], ELDER[::-1], ((), ELDER[1]), (ELDER[1], ELDER[0], ()), ((("a", 1),), ELDER[1]),
            ELDER + ((("a", 0),),), (ELDER[0], (("b", 0), ("a", 1))), ((("a", 0), ("a", 2)), (("b", 0),), (("a", 2),)),
            ((("a", 0), ("b", 1)), ELDER[1]),
        ):
            self.assertIs(go_on(LOG, STAND, ELDER, thing), False, thing)
        # Elder EVENTs are on no further ROW, nor behind the elder ROW.
        self.assertIs(go_on(LOG, STAND, (), ((("b", 0),),)), False)
        self.assertIs(go_on(LOG, STAND, ((),), ((("a", 0),),)), False)
        self.assertIs(go_on(LOG, (2, 1, 0), ELDER, ((("a", 0), ("a", 1)), ELDER[1])), False)
        self.assertIs(go_on(LOG, STAND, ((),), ()), False)

    def test_values_of_other_kinds_and_forms(self):
        for thing in JUNK:
            self.assertIs(go_on(LOG, STAND, ELDER, thing), False, thing)
            self.assertIs(go_on(LOG, STAND, ELDER, ELDER + (thing,)), thing == () and isinstance(thing, tuple), thing)
            self.assertIs(go_on(LOG, STAND, ELDER, (ELDER[0], thing)), False, thing)
        for thing in (listed(ELDER), list(ELDER), mixed(ELDER), (list(ELDER[0]), ELDER[1])):
            self.assertIs(go_on(LOG, STAND, ELDER, thing), False, thing)
        self.assertIs(go_on(LOG, STAND, ELDER, ((("a", 0), ("a", True)), ELDER[1])), False)
        self.assertIs(go_on(LOG, STAND, ELDER, ((("a", False),), ELDER[1])), False)

    def test_more_than_twelve(self):
        self.assertIs(go_on(LOG, STAND, ELDER, ELDER + ((),) * 20), True)

    def test_all_of_small_ones(self):
        seen = {True: 0, False: 0}
        for case in drawn_growing(83, 40, 4):
            rows = all_rows(case.names, case.pairs)
            for many in range(4):
                for thing in itertools.islice(itertools.product(rows, repeat=many), 300):
                    right = are_rows(case.names, case.pairs, thing) and len(thing) >= len(case.counters)
                    for at, row in enumerate(thing):
                        elder = case.counters[at] if at < len(case.counters) else ()
                        right = right and row[:len(elder)] == elder and set(row[len(elder):]) <= set(case.new)
                    seen[right] += 1
                    self.assertIs(go_on(case.log, case.stand, case.counters, thing), right)
        self.assertGreater(min(seen.values()), 100)


class GainsOn(unittest.TestCase):
    def test_by_hand(self):
        self.assertEqual(gains_on(LOG, STAND, ELDER), [3, 2])
        self.assertEqual(gains_on(LOG, STAND, ()), [0, 2, 2, 1])
        self.assertEqual(gains_on(LOG, STAND, ((),)), [2, 2, 1])
        self.assertEqual(gains_on(LOG, (3, 3, 2), ELDER), [0])
        self.assertEqual(gains_on(LOG, (0, 0, 0), ()), [0, 3, 2, 2])
        self.assertEqual(gains_on(LOG, (0, 0, 0), ((), (), (), ())), [7])
        # The elder ROW cannot go on: all is with further ones.
        two = ((("a", 1, (0,)), ("b", 1, (0,))), ())
        self.assertEqual(gains_on(two, (1, 0), ((("a", 0),),)), [0, 1])
        for log, stand in WITHOUT_MARKED:
            self.assertEqual(gains_on(log, stand, ()), [0])
            self.assertEqual(gains_on(log, stand, ((), ())), [0])
            self.assertEqual(going_on(log, stand, ((),), 2), ((), (), ()))
            self.assertEqual(fewest_on(log, stand, ((), ())), 0)

    def test_against_all_counters_that_go_on(self):
        for case in of_hand() + drawn_growing(84, 80, 7):
            found = gains_on(case.log, case.stand, case.counters)
            most = [case.most_on(many) for many in range(6)]
            right = most[:1] + [high - low for low, high in zip(most, most[1:]) if high > low]
            self.assertEqual(found, right, (case.log, case.stand, case.counters))
            self.assertEqual(found[1:], sorted(found[1:], reverse=True))

    def test_the_first_one_can_be_the_least(self):
        rising = 0
        for case in drawn_growing(85, 100, 8):
            found = gains_on(case.log, case.stand, case.counters)
            rising += len(found) > 1 and found[0] < found[1]
        self.assertGreater(rising, 5)

    def test_going_on(self):
        for case in of_hand() + drawn_growing(86, 60, 7) + full_growing(87, 15):
            for many in (0, 1, 2, 3, 7, 12):
                given = (case.log, case.stand, case.counters)
                found = going_on(*given, many)
                self.assertEqual(len(found), len(case.counters) + many)
                self.assertTrue(are_rows(case.names, case.pairs, found))
                self.assertIs(go_on(*given, found), True)
                own = sum(map(len, case.counters))
                self.assertEqual(sum(map(len, found)) - own, sum(gains_on(*given)[:many + 1]))

    def test_twelve_elder_rows(self):
        for log in [BOUND] + full_logs(103, 10):
            # All bare: the first ones can count what as many further ones could.
            given = (log, (0,) * 5, ((),) * 12)
            self.assertEqual(gains_on(*given), [12])
            self.assertEqual((fewest_on(*given), most_kept(*given, 1)), (0, gains(log)[0]))
            self.assertEqual(len(going_on(*given, 12)), 24)
            self.assertEqual(lets(*given, bar(*given, 12), 12), 12)
            # All EVENTs elder, each on a ROW of its own.
            given = (log, tuple(machine[1] for machine in log[0]), tuple((event,) for event in marked_events(log)))
            self.assertEqual((gains_on(*given), fewest_on(*given)), ([0], 0))
            self.assertEqual([most_kept(*given, many) for many in (0, 5, 12)], [0, 5, 12])
            self.assertEqual(barrier(*given), ((), tuple(range(12))))

    def test_with_nothing_elder_it_is_the_shape(self):
        for log in full_logs(88, 20):
            self.assertEqual(gains_on(log, (0,) * 5, ()), [0] + gains(log))
            self.assertEqual(fewest_on(log, (0,) * 5, ()), width(log))


class Bars(unittest.TestCase):
    def test_bars(self):
        for thing in (
            BAR, ((), (0, 0)), (BAR[0], (0, 0)), (((("c", 0),),), (1, 1)), (((("c", 0),), (("c", 1),)), (1, 1)),
            (((),), (1, 1)), (((), ()), (2, 2)), (((), (("a", 1),)), (1, 2)), (((("a", 1),), ()), (0, 2)),
        ):
            self.assertIs(is_bar(LOG, STAND, ELDER, thing), True, thing)
        self.assertIs(is_bar(LOG, STAND, ((),), (((("c", 0),),), (0,))), True)
        self.assertIs(is_bar(LOG, STAND, (), (BAR[0], ())), True)

    def test_no_bars(self):
        for thing in (
            (BAR[0], (1, 0)), (BAR[0], (0, 2)), (BAR[0], (0, 3)), (BAR[0], (0, -1)), (BAR[0], (-1, 0)),
            (BAR[0], (0,)), (BAR[0], (0, 0, 0)), (BAR[0], ()), (BAR[0],), (BAR[0], (0, 0), ()), BAR[::-1],
            (BAR[0], (0, True)), (BAR[0], (False, 0)), (BAR[0], [0, 1]), (BAR[0], (0, None)), (BAR[0], ("0", 0)),
            (BAR[0], 0), ((BAR[0][0], BAR[0][0]), (0, 0)), ((BAR[0][0][::-1],), (0, 0)), (((("a", 1), ("a", 2)),), (0, 0)),
            # An elder EVENT, one that is not marked, one that is not there.
            (((("a", 0),),), (0, 0)), (((("b", 1),),), (0, 0)), (((("z", 1),),), (0, 0)), (((("a", True),),), (0, 0)),
            (((("c", 1),),), (0, 1)), (((("c", 1),),), (1, 0)),
        ):
            self.assertIs(is_bar(LOG, STAND, ELDER, thing), False, thing)
        self.assertIs(is_bar(LOG, STAND, ((),), (((("c", 0),),), (1,))), False)

    def test_values_of_other_kinds_and_forms(self):
        for thing in JUNK:
            self.assertIs(is_bar(LOG, STAND, ELDER, thing), False, thing)
            self.assertIs(is_bar(LOG, STAND, ELDER, (BAR[0], thing)), thing == (0, 0), thing)
            right = isinstance(thing, tuple) and thing in ((), ((),), ((), ()))
            self.assertIs(is_bar(LOG, STAND, ELDER, (thing, (0, 0))), right, thing)
            self.assertIs(is_bar(LOG, STAND, ELDER, ((thing,), (0, 0))), thing == () and thing != [], thing)
        for thing in (listed(BAR), list(BAR), mixed(BAR), (list(BAR[0]), BAR[1])):
            self.assertIs(is_bar(LOG, STAND, ELDER, thing), False, thing)

    def test_lets(self):
        self.assertEqual([lets(LOG, STAND, ELDER, BAR, many) for many in range(3)], [3, 5, 7])
        self.assertEqual(lets(LOG, STAND, ELDER, ((), (0, 0)), 4), 5)
        self.assertEqual(lets(LOG, STAND, (), (((("c", 0),), ()), ()), 3), 10)

    def test_each_bar_lets_no_less_than_can_be_counted(self):
        tight = {"on": 0, "kept": 0}
        cases = of_hand() + [case for case in drawn_growing(89, 60, 6) if len(case.new) <= 4]
        for case in cases:
            given = (case.log, case.stand, case.counters)
            counted = [sum(gains_on(*given)[:many + 1]) for many in range(3)]
            kept = [most_kept(*given, many) for many in range(3)]
            for cuts, heights in itertools.islice(case.bars(2), 400):
                self.assertIs(is_bar(*given, (cuts, heights)), True)
                for many in range(3):
                    right = case.lets(cuts, heights, many)
                    self.assertEqual(lets(*given, (cuts, heights), many), right)
                    self.assertGreaterEqual(right, counted[many])
                    tight["on"] += right == counted[many]
                    right = case.lets_kept(cuts, heights, many)
                    self.assertEqual(lets_kept(*given, (cuts, heights), many), right)
                    self.assertGreaterEqual(right, kept[many])
                    tight["kept"] += right == kept[many]
        self.assertGreater(min(tight.values()), 50)

    def test_drawn_things_against_the_words(self):
        rng = random.Random(90)
        seen = {True: 0, False: 0}
        for case in drawn_growing(90, 150, 6):
            cuts = all_cuts(case.names, case.pairs)
            for _ in range(10):
                many = rng.randint(0, 3)
                some = tuple(rng.choice(cuts) for _ in range(many))
                heights = tuple(rng.randint(0, many) for _ in case.counters)
                right = case.is_bar(some, heights)
                seen[right] += 1
                self.assertIs(is_bar(case.log, case.stand, case.counters, (some, heights)), right)
        self.assertGreater(min(seen.values()), 200)

    def test_a_bar_that_is_tight(self):
        for case in of_hand() + drawn_growing(91, 80, 7) + full_growing(92, 60):
            given = (case.log, case.stand, case.counters)
            for many in (0, 1, 2, 3, 6, 12):
                found = bar(*given, many)
                self.assertIsInstance(found, tuple)
                self.assertTrue(case.is_bar(*found), found)
                self.assertIs(is_bar(*given, found), True)
                right = sum(map(len, going_on(*given, many))) - sum(map(len, case.counters))
                self.assertEqual(case.lets(*found, many), right)


class Barriers(unittest.TestCase):
    def test_by_hand(self):
        self.assertEqual(fewest_on(LOG, STAND, ELDER), 1)
        self.assertIs(is_barrier(LOG, STAND, ELDER, ((("c", 0),), (0, 1))), True)
        for thing in (
            ((("c", 0),), (1, 0)), ((("c", 0),), (0,)), ((), (0, 1)), ((("c", 0),), (0, 1, 1)), ((("c", 0),), (0, 2)),
            ((("c", 0),), (-1, 0)), ((("c", 0),), (0, True)), ((("c", 0),), (False, 1)), ((("c", 0),), [0, 1]),
            ((("c", 1),), (0, 1)), ((("a", 1), ("c", 0)), (0,)), ((("b", 0), ("c", 0)), (0,)), ((("c", 0),),),
            ((("c", 0),), (0, 1), ()), ((0, 1), (("c", 0),)), ((("c", 0),), 0), ((("c", 0),), (None, 1)),
            ((("c", 0), ("a", 1)), (1,)), ([("c", 0)], (0, 1)), [(("c", 0),), (0, 1)],
        ):
            self.assertIs(is_barrier(LOG, STAND, ELDER, thing), False, thing)
        self.assertIs(is_barrier(LOG, STAND, ELDER, ((("a", 1), ("c", 0)), (1,))), True)
        self.assertIs(is_barrier(EMPTY, (), (), ((), ())), True)
        self.assertIs(is_barrier(LOG, (3, 3, 2), ELDER, ((), (0, 1))), True)

    def test_values_of_other_kinds_and_forms(self):
        for thing in JUNK:
            self.assertIs(is_barrier(LOG, STAND, ELDER, thing), False, thing)
            self.assertIs(is_barrier(LOG, STAND, ELDER, ((("c", 0),), thing)), False, thing)
            self.assertIs(is_barrier(LOG, STAND, ELDER, (thing, (0, 1))), False, thing)

    def test_against_all_of_small_ones(self):
        for case in of_hand() + drawn_growing(93, 60, 6):
            given = (case.log, case.stand, case.counters)
            full = 2 ** len(case.new) - 1
            every = range(len(case.counters))
            fewest = next(many for many in range(9) if full in case.sets_on(every, many))
            self.assertEqual(fewest_on(*given), fewest)
            self.assertEqual(len(gains_on(*given)), fewest + 1)
            self.assertEqual(case.widest_barrier(), len(case.counters) + fewest)
            found = barrier(*given)
            self.check(case, found, fewest)
            for cut in all_cuts(case.names, case.pairs):
                for indices in choices_of(every):
                    right = (
                        set(cut) <= set(case.new) and case.is_blocking(cut, indices)
                        and len(cut) + len(indices) == len(case.counters) + fewest
                    )
                    self.assertIs(is_barrier(*given, (cut, indices)), right)

    def check(self, case, found, fewest):
        cut, indices = found
        self.assertIn(cut, all_cuts(case.new, case.pairs))
        self.assertEqual(indices, tuple(sorted(set(indices))))
        self.assertTrue(case.is_blocking(cut, indices))
        self.assertEqual(len(cut) + len(indices), len(case.counters) + fewest)
        self.assertIs(is_barrier(case.log, case.stand, case.counters, found), True)

    def test_at_the_bounds(self):
        for case in full_growing(94, 60):
            given = (case.log, case.stand, case.counters)
            fewest = fewest_on(*given)
            self.check(case, barrier(*given), fewest)
            on_rows = {event for row in going_on(*given, fewest) for event in row}
            self.assertLessEqual(set(case.new), on_rows)


class Kept(unittest.TestCase):
    def test_by_hand(self):
        self.assertEqual([most_kept(LOG, STAND, ELDER, many) for many in range(5)], [0, 3, 5, 7, 7])
        self.assertEqual(keep(LOG, STAND, ELDER, 0), ())
        self.assertEqual(keep(LOG, STAND, ELDER, 1), (0,))
        self.assertEqual(keep(LOG, STAND, ELDER, 3), (0, 1))
        # The shorter elder ROW can go on, the longer one cannot.
        log = ((("a", 2, (0, 1)), ("b", 4, (0, 1, 2, 3))), ())
        elder = ((("a", 0), ("a", 1)), (("b", 0),))
        self.assertEqual(keep(log, (2, 1), elder, 1), (1,))
        self.assertEqual([most_kept(log, (2, 1), elder, many) for many in range(4)], [0, 4, 6, 6])
        # It may be best to give up an elder ROW for a further one.
        log = ((("a", 1, (0,)), ("b", 3, (0, 1, 2))), ())
        self.assertEqual((keep(log, (1, 0), ((("a", 0),),), 1), most_kept(log, (1, 0), ((("a", 0),),), 1)), ((), 3))
        for log, stand in WITHOUT_MARKED:
            self.assertEqual(most_kept(log, stand, ((), ()), 3), 0)
            self.assertEqual(lets_kept(log, stand, ((),), ((), (0,)), 3), 0)

    def test_lets_kept(self):
        self.assertEqual([lets_kept(LOG, STAND, ELDER, BAR, many) for many in range(4)], [1, 3, 5, 7])
        self.assertEqual(lets_kept(LOG, STAND, ELDER, ((), (0, 0)), 5), 7)
        self.assertEqual(lets_kept(LOG, STAND, ((("a", 0),), ()), (((), ()), (2, 0)), 1), 7)

    def test_against_all_choices(self):
        for case in of_hand() + drawn_growing(95, 80, 7):
            for many in range(5):
                self.check(case, many, case.most_kept(many))

    def test_at_the_bounds(self):
        for case in full_growing(96, 60):
            for many in (0, 1, 2, 3, 5, 12):
                self.check(case, many, most_kept(case.log, case.stand, case.counters, many))

    def check(self, case, many, right):
        """A BAR and a choice show each other to be the best."""
        given = (case.log, case.stand, case.counters)
        self.assertEqual(most_kept(*given, many), right)
        indices = keep(*given, many)
        self.assertIsInstance(indices, tuple)
        self.assertEqual(list(indices), sorted(set(indices)))
        self.assertLessEqual(len(indices), many)
        self.assertLessEqual(set(indices), set(range(len(case.counters))))
        kept = tuple(case.counters[index] for index in indices)
        rows = going_on(case.log, case.stand, kept, many - len(kept))
        self.assertEqual(sum(map(len, rows)), right)
        found = bar_kept(*given, many)
        self.assertIsInstance(found, tuple)
        self.assertTrue(case.is_bar(*found), found)
        self.assertIs(is_bar(*given, found), True)
        self.assertEqual(case.lets_kept(*found, many), right)
        self.assertEqual(lets_kept(*given, found, many), right)


def right_stairs(log):
    """The rule of stairs, straight as the document says it, all steps being there from the beginning."""
    pairs = ahead_pairs(log)
    steps = {at: list(range(at * (at - 1) // 2, at * (at + 1) // 2)) for at in range(1, 14)}
    rows, found = {counter: [] for step in steps.values() for counter in step}, []
    for event in coming_order(log):
        if event in marked_events(log):
            at = min(
                at for at, step in steps.items()
                if any(not rows[counter] or (rows[counter][-1], event) in pairs for counter in step)
            )
            behind = [counter for counter in steps[at] if rows[counter] and (rows[counter][-1], event) in pairs]
            counter = min(behind) if behind else min(one for one in steps[at] if not rows[one])
            rows[counter].append(event)
            found.append((event, counter, at))
            if at > 1:
                others = [other for other in steps[at] if other != counter]
                steps[at], steps[at - 1] = [counter] + steps[at - 1], others
    return found, rows


class Stairs(unittest.TestCase):
    def test_by_hand(self):
        self.assertEqual(
            stairs(LOG),
            [
                (("a", 0), 0, 1), (("a", 1), 0, 1), (("a", 2), 0, 1), (("b", 0), 1, 2), (("b", 2), 2, 1),
                (("c", 0), 3, 3), (("c", 1), 4, 2),
            ],
        )
        for log, _ in WITHOUT_MARKED:
            self.assertEqual((stairs(log), stair_costs(log)), ([], []))

    def test_they_come_in_the_order_of_coming(self):
        log = ((("a", 1, (0,)), ("b", 2, (0, 1))), ((("b", 1), ("a", 0)),))
        self.assertEqual(stairs(log), [(("b", 0), 0, 1), (("b", 1), 0, 1), (("a", 0), 0, 1)])

    def test_against_the_words(self):
        highest = 0
        for log in list(LOGS) + drawn_logs(97, 150, 0, 12) + full_logs(98, 150):
            found, rows = right_stairs(log)
            self.assertEqual(stairs(log), found, log)
            highest = max([highest] + [at for _, _, at in found])
            self.assertIs(are_counters(log, tuple(tuple(row) for row in rows.values())), True)
        self.assertGreaterEqual(highest, 4)

    def test_never_more_counters_than_promised(self):
        for log in full_logs(99, 150) + drawn_logs(100, 100, 0, 12):
            wide = width(log)
            for event, used, wide_so_far, later in stair_costs(log):
                self.assertLessEqual(used, wide_so_far * (wide_so_far + 1) // 2)
                self.assertGreaterEqual(later, max(used, wide))
            for _, counter, step in stairs(log):
                self.assertLessEqual(step, wide)
                self.assertLess(counter, wide * (wide + 1) // 2)

    def test_costs_against_all_choices(self):
        for log in list(LOGS[:6]) + drawn_logs(101, 50, 0, 7):
            names, pairs = renamed_order(log)
            rows, right = {}, []
            order = right_stairs(log)[0]
            for at, (event, counter, _) in enumerate(order):
                rows.setdefault(counter, []).append(event)
                come = sorted(one for one, _, _ in order[:at + 1])
                wide = max(len(cut) for cut in all_cuts(come, pairs))
                left = [one for one in names if one not in come]
                found = self.later(left, pairs, [row[-1] for row in rows.values()])
                right.append((event, len(rows), wide, found))
            self.assertEqual(stair_costs(log), right, log)

    def later(self, left, pairs, lasts):
        """The least number of counters that count all in the end, if those with these last EVENTs go on."""
        rows = all_rows(left, pairs)
        sets = {0}
        for last in lasts:
            some = [row for row in rows if not row or (last, row[0]) in pairs]
            sets = {
                one | part for one in sets for part in (self.bits(left, row) for row in some) if not one & part
            }
        for many in range(len(left) + 1):
            if any(one | part == 2 ** len(left) - 1 for one in sets for part in sets_by(left, rows, many)):
                return len(lasts) + many
        return None

    def bits(self, left, row):
        return sum(1 << left.index(name) for name in row)

    def test_costs_at_the_end(self):
        for log in full_logs(102, 40) + [BOUND]:
            order, rows = right_stairs(log)
            used = len([row for row in rows.values() if row])
            self.assertEqual(stair_costs(log)[-1], (order[-1][0], used, width(log), used))


if __name__ == "__main__":
    unittest.main()
