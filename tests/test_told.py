"""told.py: [7]."""

import itertools
import random
import unittest

from fewstamps.errors import NoEvent, NotOpen
from fewstamps.stamps import are_counters, place, stamp
from fewstamps.told import (
    added, dropped, fewest_telling, is_order, is_sheet, least_open, open_pairs, orders, sheet, sure,
    telling, told_pairs, tells,
)
from tests.brute import (
    all_rows, bits_of, drawn_logs, families, gives, giving, orders_on, renamed_order, sets_by,
)
from tests.helpers import (
    BARE_MACHINES, BOUND, COUNTERS, EMPTY, JUNK, LOG, LOGS, UNMARKED, ahead_pairs, listed, marked_events,
    mixed, random_counters,
)

WITHOUT_MARKED = (EMPTY, BARE_MACHINES, UNMARKED)
FEW = ((("p", 0), (0, 1), (1,)), (("q", 0), None, (0,)), (("r", 0), None, (1,)))
SHEET = (
    (("a", 0), (0, 1), (1, 0)), (("a", 1), (0, 2), (2, 0)), (("a", 2), (0, 3), (3, 0)),
    (("b", 0), (1, 1), (0, 1)), (("b", 2), None, (1, 1)), (("c", 0), None, (0, 0)), (("c", 1), (1, 2), (1, 2)),
)


def drawn_sheets(seed, many, most):
    """Pairs of a LOG with at most so many marked EVENTs, and COUNTERS of it."""
    rng = random.Random(seed)
    return [(log, random_counters(rng, log)) for log in drawn_logs(seed, many, 0, most)]


def statuses(lines):
    """What all orders that give the SHEET say of each pair of its EVENTs."""
    every = giving(lines)
    names = [line[0] for line in lines]
    found = {}
    for one, other in itertools.product(names, repeat=2):
        many = sum((one, other) in order for order in every)
        found[one, other] = "not" if many == 0 else "ahead" if many == len(every) else "open"
    return found


def right_open(names, pairs, chosen):
    """How many pairs are open if the chosen EVENTs are counted, each one on a counter of its own."""
    many = 0
    for one, other in itertools.product(names, repeat=2):
        if one != other and one not in chosen and not (other in chosen and (other, one) in pairs):
            low = {name for name in chosen if (name, one) in pairs}
            high = {name for name in chosen if name == other or (name, other) in pairs}
            many += low <= high
    return many


class Sheets(unittest.TestCase):
    def test_by_hand(self):
        self.assertEqual(sheet(LOG, COUNTERS), SHEET)
        self.assertEqual(sheet(LOG, ())[0], (("a", 0), None, ()))
        self.assertEqual(sheet(LOG, ((), (("c", 0),)))[5], (("c", 0), (1, 1), (0, 1)))
        for log in WITHOUT_MARKED:
            self.assertEqual(sheet(log, ()), ())
            self.assertEqual(sheet(log, ((), ())), ())

    def test_of_logs(self):
        for log, counters in drawn_sheets(41, 60, 12):
            found = sheet(log, counters)
            self.assertIs(is_sheet(found), True)
            self.assertEqual([line[0] for line in found], marked_events(log))
            for event, spot, numbers in found:
                self.assertEqual((spot, numbers), (place(counters, event), stamp(log, counters, event)))


class IsSheet(unittest.TestCase):
    def yes(self, thing):
        self.assertIs(is_sheet(thing), True, thing)

    def no(self, thing):
        self.assertIs(is_sheet(thing), False, thing)

    def test_sheets(self):
        for thing in (
            (), SHEET, FEW, ((("p", 0), None, ()),), ((("p", 0), None, (0, 0)),), ((("p", 9), (1, 1), (0, 1)),),
            # One MACHINE's EVENTs, as no MACHINE could have them: they are but names here.
            ((("p", 0), (0, 2), (2,)), (("p", 5), (0, 1), (1,))),
            ((("p", 0), (0, 1), (1, 0)), (("p", 1), (1, 1), (0, 1)), (("q", 0), (0, 2), (2, 1))),
        ):
            self.yes(thing)

    def test_numbers_that_do_not_count(self):
        for thing in (
            FEW[1:], FEW[2:], ((("p", 0), (0, 1), (0,)),), ((("p", 0), (0, 1), (2,)),), ((("p", 0), (0, 0), (0,)),),
            ((("p", 0), (0, 2), (2,)),), ((("p", 0), (0, 2), (1,)),), ((("p", 0), (1, 1), (1,)),),
            ((("p", 0), (-1, 1), (1,)),), ((("p", 0), (0, -1), (-1,)),), ((("p", 0), None, (-1,)),),
            ((("p", 0), (0, 1), (1,)), (("q", 0), (0, 1), (1,))), ((("p", 0), (0, 1), (1,)), (("q", 0), (0, 3), (3,))),
            ((("p", 0), (0, 1), (1,)), (("q", 0), None, (2,))), ((("p", 0), (0, 1), (2,)), (("q", 0), (0, 2), (2,))),
        ):
            self.no(thing)

    def test_no_order_gives_it(self):
        # Each is ahead of the other.
        self.no(((("p", 0), (0, 1), (1, 1)), (("q", 0), (1, 1), (1, 1))))
        # p is ahead of q, q of r, but p is not of r.
        self.no(((("p", 0), (0, 1), (1, 0)), (("q", 0), (1, 1), (1, 1)), (("r", 0), None, (0, 1))))
        # The second one on a counter knows less of the other counter than the first one.
        self.no(((("p", 0), (0, 1), (1, 1)), (("p", 1), (0, 2), (2, 0)), (("q", 0), (1, 1), (0, 1))))

    def test_forms(self):
        line = (("p", 0), (0, 1), (1,))
        for thing in JUNK:
            if thing != ():
                self.no(thing)
            self.no((thing,))
            self.no((line, thing))
            if thing != ("a", 0):
                self.no(((thing, (0, 1), (1,)),))
            if thing is not None:
                self.no(((("p", 0), thing, (1,)),))
            self.no(((("p", 0), (0, 1), thing),))
            if thing not in ((), (0,), (0, 0)):
                self.no(((("p", 0), None, thing),))
        for event in (
            ("", 0), ("abcdefghi", 0), ("A", 0), ("a1", 0), ("p", -1), ("p", True), ("p", False), ("p", None),
            ("p", "0"), ("p",), ("p", 0, 0), ["p", 0], "p", (0, "p"), ("\xe9", 0), (("p", 0), 0),
        ):
            self.no(((event, (0, 1), (1,)),))
            self.no(((event, None, ()),))
        for spot in ((0, True), (False, 1), (0,), (0, 1, 1), [0, 1], True, 0, "01", (None, 1), ((0, 1),), ()):
            self.no(((("p", 0), spot, (1,)),))
        for numbers in ((True,), [1], 1, ("1",), (None,), ((1,),)):
            self.no(((("p", 0), (0, 1), numbers),))
        self.no(((("p", 0), None, (False,)),))
        self.no((line[:2],))
        self.no((line + (0,),))
        self.no(line)

    def test_they_ascend_and_have_stamps_as_long(self):
        self.no((SHEET[1], SHEET[0]) + SHEET[2:])
        self.no(SHEET[:1] + SHEET)
        self.no((FEW[0], FEW[2], FEW[1]))
        self.no(((("p", 0), None, ()), (("p", 0), None, ())))
        self.no(((("p", 0), None, ()), (("q", 0), None, (0,))))
        self.no(((("p", 0), None, (0, 0)), (("q", 0), None, (0,))))

    def test_lists_are_none(self):
        for thing in (listed(SHEET), list(SHEET), mixed(SHEET), [], [()], tuple(list(line) for line in FEW)):
            self.no(thing)

    def test_all_small_ones_against_all_orders(self):
        seen = {True: 0, False: 0}
        names = (("p", 0), ("q", 0), ("r", 0))
        for many, length in ((1, 1), (2, 1), (2, 2), (3, 1)):
            spots = [None] + [(counter, number) for counter in range(length) for number in (1, 2)]
            numbers = list(itertools.product(range(3), repeat=length))
            for parts in itertools.product(itertools.product(spots, numbers), repeat=many):
                thing = tuple((name,) + part for name, part in zip(names, parts))
                # Their numbers on each counter are to be 1, 2, .., and no entry greater than the last.
                right = self.counts_well(thing, length) and bool(giving(thing))
                seen[right] += 1
                self.assertIs(is_sheet(thing), right, thing)
        self.assertGreater(min(seen.values()), 40)

    def counts_well(self, lines, length):
        for counter in range(length):
            found = sorted(spot[1] for _, spot, _ in lines if spot and spot[0] == counter)
            if found != list(range(1, len(found) + 1)):
                return False
        return True

    def test_changed_ones_against_all_orders(self):
        rng = random.Random(42)
        seen = {True: 0, False: 0}
        for log, counters in drawn_sheets(42, 300, 4):
            lines = [list(line) for line in sheet(log, counters)]
            if lines and counters:
                line = rng.choice(lines)
                at = rng.randrange(len(counters))
                line[2] = line[2][:at] + (line[2][at] + rng.choice((-1, 1)),) + line[2][at + 1:]
                thing = tuple(tuple(line) for line in lines)
                right = bool(giving(thing))
                seen[right] += 1
                self.assertIs(is_sheet(thing), right, thing)
        self.assertGreater(min(seen.values()), 20)

    def test_beyond_the_bounds(self):
        lines = tuple((("p", number), (0, number + 1), (number + 1,)) for number in range(60))
        self.yes(lines)
        self.yes(lines + ((("q", 10**30), None, (60,)),))
        self.no(lines + ((("q", 10**30), None, (61,)),))


class IsOrder(unittest.TestCase):
    def test_all_small_ones(self):
        for log, counters in drawn_sheets(43, 40, 4):
            lines = sheet(log, counters)
            right = {tuple(sorted(order)) for order in giving(lines)}
            for order in orders_on(tuple(line[0] for line in lines)):
                thing = tuple(sorted(order))
                self.assertIs(is_order(lines, thing), thing in right, (lines, thing))

    def test_no_orders(self):
        told = tuple(told_pairs(SHEET))
        self.assertIs(is_order(SHEET, told), True)
        for thing in (
            told[1:], told[:-1], told[::-1], told + told[-1:], (), told + ((("z", 0), ("z", 1)),),
            tuple(sorted(told + ((("c", 0), ("c", 0)),))), tuple(sorted(told + ((("b", 2), ("z", 1)),))),
            # It would be ahead of c 1, then, too.
            tuple(sorted(told + ((("c", 0), ("b", 0)),))),
            # What is told not.
            tuple(sorted(told + ((("b", 2), ("a", 2)),))), tuple(sorted(told + ((("a", 2), ("c", 1)),))),
            # Two that are each ahead of the other.
            tuple(sorted(told + ((("b", 2), ("c", 0)), (("c", 0), ("b", 2))))),
        ):
            self.assertIs(is_order(SHEET, thing), False, thing)
        further = ((("c", 0), ("b", 0)), (("c", 0), ("c", 1)))
        self.assertIs(is_order(SHEET, tuple(sorted(told + further))), False)
        further += ((("c", 0), ("b", 2)),)
        self.assertIs(is_order(SHEET, tuple(sorted(told + further))), True)
        # The same pairs, but one of them twice, or not ascending.
        self.assertIs(is_order(SHEET, tuple(sorted(told + further + further[:1]))), False)
        self.assertIs(is_order(SHEET, tuple(sorted(further)) + told), False)
        self.assertIs(is_order(SHEET, tuple(sorted(told + further))[::-1]), False)

    def test_rings_are_none(self):
        lines = tuple(((name, 0), None, ()) for name in "abc")
        ring = ((("a", 0), ("b", 0)), (("b", 0), ("c", 0)), (("c", 0), ("a", 0)))
        every = tuple(itertools.product([line[0] for line in lines], repeat=2))
        self.assertIs(is_order(lines, ring), False)
        self.assertIs(is_order(lines, every), False)
        self.assertIs(is_order(lines, tuple(pair for pair in every if pair[0] != pair[1])), False)
        self.assertIs(is_order(lines, ring[:2]), False)
        self.assertIs(is_order(lines, (ring[0], (("a", 0), ("c", 0)), ring[1])), True)

    def test_values_of_other_kinds_and_forms(self):
        for thing in JUNK:
            self.assertIs(is_order(SHEET, thing), False, thing)
            self.assertIs(is_order((), thing), thing == () and isinstance(thing, tuple), thing)
            self.assertIs(is_order(FEW, (thing,)), False)
            self.assertIs(is_order(FEW, ((("p", 0), ("r", 0)), thing)), False)
            self.assertIs(is_order(FEW, ((("p", 0), thing),)), False)
            self.assertIs(is_order(FEW, ((thing, ("r", 0)),)), False)
        self.assertIs(is_order(FEW, ((("p", 0), ("r", 0)),)), True)
        for thing in (
            ((("p", False), ("r", 0)),), ((("p", 0), ("r", False)),), [(("p", 0), ("r", 0))],
            ([("p", 0), ("r", 0)],), ((["p", 0], ("r", 0)),), ((("p", 0), ["r", 0]),), (("p", 0), ("r", 0)),
            ((("p", 0), ("r", 0), ("q", 0)),),
        ):
            self.assertIs(is_order(FEW, thing), False, thing)


class Tells(unittest.TestCase):
    def test_against_all_orders(self):
        seen = {"ahead": 0, "not": 0, "open": 0}
        for log, counters in drawn_sheets(44, 300, 4) + [(EMPTY, ()), (UNMARKED, ((),))]:
            lines = sheet(log, counters)
            right = statuses(lines)
            for (one, other), told in right.items():
                seen[told] += 1
                self.assertEqual(tells(lines, one, other), told, (lines, one, other))
            for found, told in ((told_pairs(lines), "ahead"), (open_pairs(lines), "open")):
                self.assertEqual(found, sorted(pair for pair in right if right[pair] == told))
            firsts = {pair[0] for pair in right if right[pair] == "open"}
            self.assertEqual(sure(lines), [line[0] for line in lines if line[0] not in firsts])
        self.assertGreater(min(seen.values()), 100)

    def test_some_of_five_against_all_orders(self):
        for log, counters in [pair for pair in drawn_sheets(45, 60, 5) if len(marked_events(pair[0])) == 5][:8]:
            lines = sheet(log, counters)
            for (one, other), told in statuses(lines).items():
                self.assertEqual(tells(lines, one, other), told)

    def test_sheets_of_names_alone(self):
        lines = ((("p", 0), (0, 2), (2,)), (("p", 1), None, (0,)), (("p", 5), (0, 1), (1,)))
        self.assertEqual(tells(lines, ("p", 5), ("p", 0)), "ahead")
        self.assertEqual(tells(lines, ("p", 0), ("p", 5)), "not")
        self.assertEqual(tells(lines, ("p", 1), ("p", 5)), "open")
        self.assertEqual(tells(lines, ("p", 0), ("p", 1)), "not")

    def test_one_event_twice(self):
        for event, _, _ in SHEET:
            self.assertEqual(tells(SHEET, event, event), "not")
            with self.assertRaises(NotOpen) as caught:
                orders(SHEET, list(event), event)
            self.assertEqual(repr((caught.exception.one, caught.exception.other)), repr((event, event)))

    def test_without_counters_all_is_open(self):
        for counters in ((), ((),), ((), ())):
            lines = sheet(LOG, counters)
            self.assertEqual((len(open_pairs(lines)), told_pairs(lines), sure(lines)), (42, [], []))

    def test_sure_as_the_document_says(self):
        for log, counters in drawn_sheets(46, 60, 10):
            _, pairs = renamed_order(log)
            found = sure(sheet(log, counters))
            on_rows = [event for row in counters for event in row]
            self.assertLessEqual(set(on_rows), set(found))
            for event in found:
                if event not in on_rows:
                    self.assertFalse(any(one == event for one, _ in pairs))

    def test_told_pairs_are_those_of_the_log_with_a_counted_first_one(self):
        for log, counters in drawn_sheets(47, 60, 12) + [(BOUND, ((("alpha", 0), ("b", 1)), ()))]:
            _, pairs = renamed_order(log)
            on_rows = {event for row in counters for event in row}
            self.assertEqual(told_pairs(sheet(log, counters)), sorted(pair for pair in pairs if pair[0] in on_rows))

    def test_events_that_are_not_on_the_sheet(self):
        for absent in (("b", 1), ("a", 3), ("z", 0), ("a", -1), ("", 0)):
            for call in (tells, orders):
                for one, other in ((absent, ("a", 0)), (("c", 0), absent), (absent, ("y", 7)), (absent, absent)):
                    for how in (tuple, list):
                        with self.assertRaises(NoEvent) as caught:
                            call(SHEET, how(one), how(other))
                        self.assertEqual(repr(caught.exception.event), repr(absent))
        with self.assertRaises(NoEvent):
            tells((), ("a", 0), ("a", 0))


class Orders(unittest.TestCase):
    def test_both_give_the_sheet(self):
        many = 0
        for log, counters in drawn_sheets(48, 150, 8) + [(LOG, COUNTERS)]:
            lines = sheet(log, counters)
            for one, other in open_pairs(lines):
                found = orders(lines, one, other)
                self.assertIsInstance(found, tuple)
                self.assertEqual(len(found), 2)
                for order, right in zip(found, (False, True)):
                    self.assertIsInstance(order, tuple)
                    self.assertEqual(list(order), sorted(set(order)))
                    self.assertIs((one, other) in order, right)
                    self.assertTrue(gives(lines, set(order)))
                    self.assertTrue(all(
                        (first, far) in order for first, last in order for near, far in order if last == near
                    ))
                    self.assertFalse(any(first == last for first, last in order))
                    self.assertIs(is_order(lines, order), True)
                many += 1
        self.assertGreater(many, 300)

    def test_not_open(self):
        for lines in (SHEET, FEW):
            left = set(open_pairs(lines))
            for one, other in itertools.product([line[0] for line in lines], repeat=2):
                if (one, other) not in left:
                    with self.assertRaises(NotOpen) as caught:
                        orders(lines, one, list(other))
                    kept = (caught.exception.one, caught.exception.other)
                    self.assertEqual(repr(kept), repr((one, other)))


class Fewer(unittest.TestCase):
    def test_dropped(self):
        for log, counters in drawn_sheets(50, 60, 8) + [(LOG, COUNTERS)]:
            names, pairs = renamed_order(log)
            every = {event for row in counters for event in row}
            right = [
                right_open(names, pairs, every - set(row)) - right_open(names, pairs, every) for row in counters
            ]
            self.assertEqual(dropped(log, counters), right)
            for at in range(len(counters)):
                fewer = len(open_pairs(sheet(log, counters[:at] + counters[at + 1:])))
                self.assertEqual(right[at], fewer - len(open_pairs(sheet(log, counters))))

    def test_dropped_edges(self):
        self.assertEqual(dropped(LOG, ()), [])
        self.assertEqual(dropped(LOG, ((), ())), [0, 0])
        self.assertEqual(dropped(LOG, ((),) + COUNTERS), [0, 18, 11])
        for log in WITHOUT_MARKED:
            self.assertEqual(dropped(log, ((), ())), [0, 0])

    def test_added_against_all_rows(self):
        ties = 0
        for log, counters in drawn_sheets(51, 80, 6) + [(LOG, COUNTERS), (LOG, ()), (LOG, ((),))]:
            names, pairs = renamed_order(log)
            every = {event for row in counters for event in row}
            right = sorted(
                (len(open_pairs(sheet(log, counters + (row,)))), row)
                for row in all_rows(names, pairs) if not every & set(row)
            )
            self.assertEqual(added(log, counters), (right[0][1], right[0][0]))
            ties += len([many for many, _ in right if many == right[0][0]]) > 1
        self.assertGreater(ties, 10)

    def test_added_edges(self):
        for log in WITHOUT_MARKED:
            self.assertEqual(added(log, ()), ((), 0))
            self.assertEqual(added(log, ((),)), ((), 0))
        rows = tuple((event,) for event in marked_events(LOG))
        self.assertEqual(added(LOG, rows), ((), 0))
        # Rows go by what is ahead, not by names.
        back = ((("a", 1, (0,)), ("b", 1, (0,))), ((("b", 0), ("a", 0)),))
        self.assertEqual(added(back, ()), ((("b", 0),), 0))

    def test_least_open_against_all_choices(self):
        for log in list(LOGS[:6]) + drawn_logs(52, 40, 0, 7):
            names, pairs = renamed_order(log)
            rows = all_rows(names, pairs)
            widest = next(many for many in range(9) if 2 ** len(names) - 1 in sets_by(names, rows, many))
            opens = {}
            for bits in range(2 ** len(names)):
                chosen = {name for name in names if bits & bits_of(names, [name])}
                opens[bits] = right_open(names, pairs, chosen)
            for many in range(5):
                right = min(opens[bits] for bits in sets_by(names, rows, many))
                self.assertEqual(least_open(log, many), right, (log, many))
                found = telling(log, many)
                self.assertIsInstance(found, tuple)
                self.assertLessEqual(len(found), many)
                self.assertIs(are_counters(log, found), True)
                self.assertEqual(len(open_pairs(sheet(log, found))), right)
            fewest = next(
                many for many in range(9) if any(opens[bits] == 0 for bits in sets_by(names, rows, many))
            )
            self.assertEqual(fewest_telling(log), fewest)
            self.assertLessEqual(fewest, widest)

    def test_all_counters_of_small_ones(self):
        for log in drawn_logs(53, 20, 1, 4):
            names, pairs = renamed_order(log)
            for many in range(3):
                right = min(
                    sum(told == "open" for told in statuses(sheet(log, counters)).values())
                    for counters in families(all_rows(names, pairs), many)
                )
                self.assertEqual(least_open(log, many), right)

    def test_by_hand(self):
        one = ((("a", 1, (0,)),), ())
        self.assertEqual((least_open(one, 0), telling(one, 0), fewest_telling(one)), (0, (), 0))
        two = ((("a", 2, (0, 1)),), ())
        self.assertEqual((least_open(two, 0), least_open(two, 1), fewest_telling(two)), (2, 0, 1))
        # The second one need not be counted.
        self.assertEqual(len(open_pairs(sheet(two, ((("a", 0),),)))), 0)
        for log in WITHOUT_MARKED:
            self.assertEqual((least_open(log, 0), least_open(log, 3), fewest_telling(log)), (0, 0, 0))
            self.assertEqual(telling(log, 0), ())
            self.assertLessEqual(len(telling(log, 3)), 3)

    def test_fewer_can_tell_all_than_can_count_all(self):
        log = (
            (("p", 4, (0, 1, 2, 3)), ("q", 3, (0, 1, 2)), ("r", 1, (0,))),
            ((("p", 1), ("r", 0)), (("q", 0), ("r", 0))),
        )
        self.assertEqual([least_open(log, many) for many in range(4)], [56, 23, 0, 0])
        self.assertEqual(fewest_telling(log), 2)
        names, pairs = renamed_order(log)
        self.assertEqual(right_open(names, pairs, {event for row in telling(log, 2) for event in row}), 0)

    def test_counting_the_same_events_otherwise_leaves_the_same_open(self):
        for log, counters in drawn_sheets(54, 40, 8):
            alone = tuple((event,) for row in counters for event in row)
            self.assertEqual(open_pairs(sheet(log, counters)), open_pairs(sheet(log, alone)))

    def test_more_counted_never_leave_more_open(self):
        for log in drawn_logs(55, 20, 1, 8):
            found = [least_open(log, many) for many in range(6)]
            self.assertEqual(found, sorted(found, reverse=True))
            self.assertTrue(all(pair in ahead_pairs(log) for pair in told_pairs(sheet(log, telling(log, 2)))))


if __name__ == "__main__":
    unittest.main()
