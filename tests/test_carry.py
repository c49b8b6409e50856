"""carry.py: [9], with guarantee (d) of [1]."""

import random
import unittest

from fewstamps.carry import (
    alike, by_last, by_machines, has_surely, is_in_order, is_witness, known_of, late, must_carry, news, totals,
    witness,
)
from fewstamps.data import is_log
from fewstamps.errors import NoEvent, NoMachine, NoMessage, OutOfOrder
from fewstamps.stamps import are_counters, counted
from tests.brute import full_logs
from tests.helpers import (
    BARE_MACHINES, BOUND, COUNTERS, EMPTY, JUNK, LOG, LOGS, MANY_MESSAGES, UNMARKED, all_events, coming_order, listed,
    marked_events, mixed, random_counters, random_logs,
)
from tests.posts import (
    busy_logs, known_at, ordered, right_alike, right_crossings, right_entries, right_stamp, right_witness, worlds,
)

TALK = (
    (("a", 3, (0, 1, 2)), ("b", 2, (0,))),
    ((("a", 0), ("b", 0)), (("a", 2), ("b", 1)), (("b", 0), ("a", 1))),
)
TWO = ((("a", 0), ("a", 1), ("a", 2)), (("b", 0),))
LAST = (("a", 2), ("b", 1))
# The later one of two messages overtakes the earlier one; then one comes again in order.
CROSSED = (
    (("a", 3, (0, 1, 2)), ("b", 3, ())),
    ((("a", 0), ("b", 1)), (("a", 1), ("b", 0)), (("a", 2), ("b", 2))),
)
A_ROW = ((("a", 0), ("a", 1), ("a", 2)),)
# One EVENT sends two messages to the same MACHINE.
TWICE = ((("a", 1, (0,)), ("b", 2, ())), ((("a", 0), ("b", 0)), (("a", 0), ("b", 1))))
# c hears of a 0 by b, too.
ROUND = (
    (("a", 1, (0,)), ("b", 1, (0,)), ("c", 2, (1,))),
    ((("a", 0), ("b", 0)), (("a", 0), ("c", 1)), (("b", 0), ("c", 1))),
)
ROUND_ROW = ((("a", 0), ("b", 0), ("c", 1)),)
ASKING = (has_surely, must_carry, late)


def caught_by(case, error, call, *values):
    """The error that the call raises."""
    with case.assertRaises(error) as caught:
        call(*values)
    return caught.exception


def drawn(seed, many, **how):
    """LOGs and COUNTERS, and whether messages are to come in order."""
    rng = random.Random(seed)
    found = []
    for log in list(LOGS[:5]) + busy_logs(seed, many, **how) + random_logs(seed, many // 2):
        for in_order in (False, True):
            case = ordered(log) if in_order else log
            found.append((case, random_counters(rng, case), in_order))
    return found


def full(seed, many):
    rng = random.Random(seed)
    found = []
    for log in [BOUND] + full_logs(seed, many):
        for in_order in (False, True):
            case = ordered(log) if in_order else log
            found.append((case, random_counters(rng, case), in_order))
    return found


def earlier_senders(log, message):
    """The EVENTs by which the same MACHINE sent earlier messages to the same one."""
    (name, number), (other, place) = message
    return [
        sent for sent, come in log[1]
        if sent[0] == name and come[0] == other and (sent[1] < number or sent[1] == number and come[1] < place)
    ]


def right_surely(log, counters, message, in_order):
    """Of all EVENTs of which the MACHINE has surely heard, how many are on each counter."""
    sent, come = message
    heard = set()
    for event in known_at(log, sent) - {sent}:
        if event[0] == come[0]:
            heard |= known_at(log, event)
    for event in earlier_senders(log, message) if in_order else []:
        heard |= known_at(log, event)
    return tuple(len(heard & set(row)) for row in counters)


def above(numbers, others):
    return tuple((at, one) for at, (one, other) in enumerate(zip(numbers, others)) if one > other)


def right_news(log, counters, event):
    name, number = event
    before = known_at(log, (name, number - 1)) if number else set()
    brought = set()
    for sent, come in log[1]:
        if come == event:
            brought |= known_at(log, sent)
    found = []
    for at, row in enumerate(counters):
        if len(set(row) & (brought | before)) > len(set(row) & before):
            found.append((at, len(set(row) & brought)))
    return tuple(found)


def right_late(log, counters, message, in_order):
    lesser = [one for one in log[1] if one[1] == message[1] and one < message]
    fresh = right_news(log, counters, message[1])
    return tuple(
        (at, number) for at, number in right_entries_fast(log, counters, message, in_order)
        if (at, number) not in fresh or any(right_stamp(log, counters, one[0])[at] == number for one in lesser)
    )


def right_entries_fast(log, counters, message, in_order):
    return above(right_stamp(log, counters, message[0]), right_surely(log, counters, message, in_order))


def gone_wrong(log, counters, carried):
    """The EVENTs at which their MACHINE has not the STAMP, if messages carry these ENTRYs."""
    numbers = {name: [0] * len(counters) for name, _, _ in log[0]}
    wrong = []
    for event in coming_order(log):
        own = numbers[event[0]]
        for message in log[1]:
            if message[1] == event:
                for counter, number in carried[message]:
                    own[counter] = max(own[counter], number)
        for counter, row in enumerate(counters):
            if event in row:
                own[counter] = row.index(event) + 1
        if tuple(own) != right_stamp(log, counters, event):
            wrong.append(event)
    return wrong


class Order(unittest.TestCase):
    def test_by_hand(self):
        for log in (EMPTY, BARE_MACHINES, LOG, TALK, TWICE, ROUND, MANY_MESSAGES):
            self.assertIs(is_in_order(log), True, log)
        self.assertIs(is_in_order(CROSSED), False)
        # To one EVENT, or from one EVENT, or with other MACHINEs, none is overtaken.
        machines = (("a", 2, ()), ("b", 2, ()), ("c", 2, ()))
        for messages, right in (
            (((("a", 0), ("b", 0)), (("a", 1), ("b", 0))), True),
            (((("a", 0), ("b", 0)), (("a", 0), ("b", 1))), True),
            (((("a", 0), ("b", 1)), (("a", 1), ("c", 0))), True),
            (((("a", 0), ("c", 1)), (("b", 1), ("c", 0))), True),
            (((("a", 0), ("b", 1)), (("a", 1), ("b", 0))), False),
            (((("a", 0), ("b", 1)), (("a", 1), ("b", 1))), True),
        ):
            self.assertIs(is_in_order((machines, messages)), right)

    def test_against_all_pairs(self):
        seen = {True: 0, False: 0}
        for log in busy_logs(81, 150) + random_logs(82, 50):
            right = not right_crossings(log)
            self.assertIs(is_in_order(log), right)
            seen[right] += 1
        self.assertGreater(min(seen.values()), 20)

    def test_the_least_pair_is_told(self):
        found = 0
        for log in [CROSSED] + busy_logs(83, 60, names="ab", most=12):
            crossings = right_crossings(log)
            if crossings:
                found += len(crossings) > 1
                for call in ASKING:
                    error = caught_by(self, OutOfOrder, call, listed(log), (), log[1][-1], True)
                    self.assertEqual(repr((error.one, error.other)), repr(crossings[0]))
                error = caught_by(self, OutOfOrder, totals, log, (), True)
                self.assertEqual((error.one, error.other), crossings[0])
        self.assertGreater(found, 5)

    def test_a_log_out_of_order_does_where_any_may(self):
        message = CROSSED[1][0]
        for call in ASKING:
            self.assertEqual(call(CROSSED, A_ROW, message), call(CROSSED, A_ROW, message, False))
            caught_by(self, OutOfOrder, call, CROSSED, A_ROW, message, True)
        self.assertEqual(totals(CROSSED, A_ROW), [(3, 2)])
        self.assertEqual(by_last(CROSSED, A_ROW, message), ((0, 1),))
        self.assertEqual(news(CROSSED, A_ROW, ("b", 1)), ())
        caught_by(self, OutOfOrder, totals, CROSSED, A_ROW, True)
        caught_by(self, OutOfOrder, witness, CROSSED, A_ROW, message, 0, True)


class Alike(unittest.TestCase):
    def test_by_hand(self):
        self.assertIs(alike(LOG, LOG, ("c", 1)), True)
        # What is neither it nor ahead of it may be otherwise.
        other = ((("a", 1, (0,)), ("b", 4, (0, 3)), ("c", 2, (0, 1))), LOG[1])
        self.assertIs(alike(LOG, other, ("c", 1)), True)
        self.assertIs(alike(other, LOG, ("c", 1)), True)
        self.assertIs(alike(LOG, other, ("a", 1)), False)
        self.assertIs(alike(LOG, other, ("b", 2)), False)

    def test_each_thing_that_makes_a_difference(self):
        event = ("b", 1)
        log = ((("a", 2, (0,)), ("b", 3, (0, 1)), ("c", 3, (1,))), (
            (("a", 0), ("b", 1)), (("a", 0), ("c", 1)), (("b", 0), ("c", 2)), (("b", 1), ("c", 2)),
        ))
        self.assertIs(is_log(log), True)
        first = log[1][0]
        for other, right in (
            (log, True),
            # Other marks: of one ahead of it, of itself, of one behind it.
            ((((("a", 2, (0, 1)),) + log[0][1:]), log[1]), True),
            ((((("a", 2, ()),) + log[0][1:]), log[1]), False),
            (((log[0][0], ("b", 3, (0,)), log[0][2]), log[1]), False),
            (((log[0][0], ("b", 3, (0, 1, 2)), log[0][2]), log[1]), True),
            # Other messages that come to it, and the same ones to other EVENTs of their MACHINE.
            ((log[0], log[1][1:]), False),
            ((log[0], (first, (("a", 0), ("c", 0)), (("b", 0), ("c", 0)), (("b", 1), ("c", 2)))), True),
            ((log[0], ((("a", 0), ("b", 0)),) + log[1][1:]), False),
            # The same EVENTs are ahead of it by another way.
            ((log[0], tuple(sorted(log[1] + ((("a", 0), ("b", 0)),)))), False),
            # One sends more, or fewer, or to another MACHINE.
            ((log[0], tuple(sorted(log[1] + ((("b", 1), ("c", 1)),)))), False),
            ((log[0], log[1][:3]), False),
            ((log[0], log[1][:3] + ((("b", 1), ("a", 1)),)), False),
            # One that is not ahead of it sends more.
            ((log[0], tuple(sorted(log[1] + ((("c", 0), ("a", 1)),)))), True),
            # Another one is ahead of it.
            ((log[0], tuple(sorted(log[1] + ((("c", 0), ("b", 1)),)))), False),
            # It is not there, or nothing is.
            (((log[0][0], ("b", 1, (0,)), log[0][2]), log[1][1:3]), False),
            (EMPTY, False),
            (BARE_MACHINES, False),
        ):
            for how in (tuple, listed, mixed):
                self.assertIs(alike(log, how(other), event), right, other)
            self.assertEqual(right_alike(log, other, event), right)

    def test_against_the_definition(self):
        seen = {True: 0, False: 0}
        rng = random.Random(84)
        for log in busy_logs(85, 25):
            others = [log] + busy_logs(rng.random(), 2) + [
                (log[0], tuple(one for one in log[1] if rng.random() < 0.8)) for _ in range(3)
            ]
            for other in others:
                for event in all_events(log):
                    right = right_alike(log, other, event)
                    self.assertIs(alike(log, other, event), right)
                    seen[right] += 1
        self.assertGreater(min(seen.values()), 100)

    def test_another_log_without_the_event(self):
        log = ((("a", 2, ()), ("b", 1, ())), ())
        for other in (EMPTY, BARE_MACHINES, ((("b", 1, ()),), ()), ((("a", 1, ()), ("b", 1, ())), ())):
            self.assertIs(alike(log, other, ("a", 1)), False)
        self.assertIs(alike(log, ((("a", 2, ()),), ()), ("a", 1)), True)

    def test_an_event_that_is_not_there(self):
        for event in (("a", 3), ("d", 0), ("a", -1)):
            for how in (tuple, list):
                error = caught_by(self, NoEvent, alike, LOG, EMPTY, how(event))
                self.assertEqual(repr(error.event), repr(event))


class Carry(unittest.TestCase):
    def test_by_hand(self):
        self.assertEqual(has_surely(TALK, TWO, (("a", 0), ("b", 0))), (0, 0))
        self.assertEqual(must_carry(TALK, TWO, (("a", 0), ("b", 0))), ((0, 1),))
        self.assertEqual(has_surely(TALK, TWO, (("b", 0), ("a", 1))), (1, 0))
        self.assertEqual(must_carry(TALK, TWO, (("b", 0), ("a", 1))), ((1, 1),))
        # What b sent to a does not tell what b has heard since, but what a heard of b does.
        self.assertEqual(has_surely(TALK, TWO, LAST), (1, 1))

    def test_messages_in_order_tell_more(self):
        machines, messages = (("a", 2, (0, 1)), ("b", 2, ())), ((("a", 0), ("b", 0)), (("a", 1), ("b", 1)))
        log, rows = (machines, messages), ((("a", 0), ("a", 1)), ())
        self.assertEqual(must_carry(log, rows, messages[1]), ((0, 2),))
        log = (machines, ((("a", 0), ("b", 0)), (("a", 1), ("b", 0))))
        rows = ((("a", 0),), (("a", 1),))
        self.assertEqual(has_surely(log, rows, log[1][1]), (0, 0))
        self.assertEqual(has_surely(log, rows, log[1][1], True), (1, 0))
        self.assertEqual(must_carry(log, rows, log[1][1]), ((0, 1), (1, 1)))
        self.assertEqual(must_carry(log, rows, log[1][1], in_order=True), ((1, 1),))
        self.assertEqual(must_carry(log, rows, log[1][0], in_order=True), ((0, 1),))

    def test_two_messages_of_one_event(self):
        rows = ((("a", 0),),)
        first, second = TWICE[1]
        self.assertEqual(must_carry(TWICE, rows, second), ((0, 1),))
        self.assertEqual(must_carry(TWICE, rows, first, True), ((0, 1),))
        self.assertEqual(must_carry(TWICE, rows, second, True), ())
        self.assertEqual((by_last(TWICE, rows, first), by_last(TWICE, rows, second)), (((0, 1),), ()))
        # As many of them come to earlier EVENTs in a WITNESS.
        self.assertIs(is_witness(TWICE, rows, first, 0, True, (TWICE, first)), True)
        self.assertIs(is_witness(TWICE, rows, second, 0, True, (TWICE, first)), False)
        self.assertIs(is_witness(TWICE, rows, second, 0, False, (TWICE, first)), True)
        self.assertIs(is_witness(TWICE, rows, first, 0, False, (TWICE, second)), False)

    def test_against_the_definition(self):
        carried = {False: 0, True: 0}
        for log, counters, in_order in drawn(86, 24, steps=8, most=6):
            for message in log[1]:
                right = right_entries(log, counters, message, in_order)
                carried[in_order] += len(right)
                self.assertEqual(must_carry(log, counters, message, in_order), right, (log, counters, message))
                self.assertEqual(
                    has_surely(log, counters, message, in_order), right_surely(log, counters, message, in_order),
                )
        self.assertGreater(min(carried.values()), 30)

    def test_at_the_bounds(self):
        for log, counters, in_order in full(87, 4):
            for message in log[1]:
                self.assertEqual(
                    has_surely(log, counters, message, in_order=in_order),
                    right_surely(log, counters, message, in_order),
                )
                self.assertEqual(
                    must_carry(log, counters, message, in_order=in_order),
                    right_entries_fast(log, counters, message, in_order),
                )

    def test_rows_that_are_bare_and_no_counters(self):
        for message in TALK[1]:
            for in_order in (False, True):
                self.assertEqual(has_surely(TALK, (), message, in_order), ())
                self.assertEqual(must_carry(TALK, (), message, in_order), ())
                self.assertEqual(late(TALK, (), message, in_order), ())
                self.assertEqual(has_surely(TALK, ((), ()), message, in_order), (0, 0))
                self.assertEqual(must_carry(TALK, ((), ()), message, in_order), ())
            self.assertEqual(by_last(TALK, (), message), ())
            self.assertEqual(by_last(TALK, ((),), message), ())
        self.assertEqual(must_carry(TALK, ((),) + TWO, LAST), ((1, 3),))

    def test_carried_so_all_have_their_stamps(self):
        """Each MACHINE keeps numbers, and messages carry what they must alone; or, in order, what by_last tells."""
        for log, counters, in_order in drawn(88, 40) + full(89, 4):
            carried = {message: must_carry(log, counters, message, in_order) for message in log[1]}
            self.assertEqual(gone_wrong(log, counters, carried), [])
            if in_order:
                carried = {message: by_last(log, counters, message) for message in log[1]}
                self.assertEqual(gone_wrong(log, counters, carried), [])

    def test_without_one_entry_there_is_a_log_that_goes_wrong(self):
        for log, counters, in_order in drawn(90, 10, steps=7, most=5):
            for message in log[1]:
                for counter, number in must_carry(log, counters, message, in_order):
                    world, told = witness(log, counters, message, counter, in_order)
                    row = tuple(event for event in counters[counter] if event in known_at(log, message[0]))
                    full_number = right_stamp(world, (row,), told[1])
                    self.assertEqual(full_number, (number,))
                    rest = (world[0], tuple(one for one in world[1] if one != told))
                    self.assertLess(right_stamp(rest, (row,), told[1]), full_number)


class Witness(unittest.TestCase):
    def test_against_the_definition(self):
        seen = {True: 0, False: 0}
        for log, counters, in_order in drawn(91, 10, steps=7, most=5):
            for message in log[1]:
                entries = dict(right_entries_fast(log, counters, message, in_order))
                for counter in range(len(counters)):
                    found = witness(log, counters, message, counter, in_order)
                    self.assertEqual(found is not None, counter in entries)
                    if found is not None:
                        self.assertIs(is_log(found[0]), True)
                        self.assertTrue(right_witness(log, counters, message, counter, in_order, *found))
                        self.assertIs(is_witness(log, counters, message, counter, in_order, found), True)
                    for world in worlds(log, message[0]):
                        for told in world[1]:
                            right = right_witness(log, counters, message, counter, in_order, world, told)
                            thing = (world, told)
                            self.assertIs(is_witness(log, counters, message, counter, in_order, thing), right)
                            seen[right] += 1
        self.assertGreater(min(seen.values()), 200)

    def test_at_the_bounds(self):
        found = 0
        for log, counters, in_order in full(92, 4):
            for message in log[1]:
                carried = [counter for counter, _ in must_carry(log, counters, message, in_order)]
                for counter in range(len(counters)):
                    one = witness(log, counters, message, counter, in_order)
                    self.assertEqual(one is not None, counter in carried)
                    if one is not None:
                        found += 1
                        self.assertIs(is_log(one[0]), True)
                        self.assertTrue(right_witness(log, counters, message, counter, in_order, *one))
                        self.assertIs(is_witness(log, counters, message, counter, in_order, one), True)
        self.assertGreater(found, 50)

    def test_what_is_none(self):
        asked = (TALK, TWO, LAST, 0, False)
        self.assertIs(is_witness(*asked, (TALK, LAST)), True)
        machines, messages = TALK
        marks = (("a", 3, (0, 1, 2)), ("b", 3, (0,)))
        for thing in (
            # Another form.
            TALK, LAST, (TALK,), (TALK, LAST, LAST), [TALK, LAST], (listed(TALK), LAST), (TALK, listed(LAST)),
            (TALK, (["a", 2], ["b", 1])), (TALK, (("a", 2), ("b", True))), (TALK, (LAST,)), (TALK, None), (None, LAST),
            (TALK, ()), ((), LAST), ((machines, messages[::-1]), LAST), ((machines[::-1], messages), LAST),
            (((("a", 3, (False, 1, 2)), machines[1]), messages), LAST),
            ((machines, messages + ((("b", 1), ("a", 2)),)), LAST),
            # Another message, or one that is not there.
            (TALK, messages[0]), (TALK, messages[2]), (TALK, (("a", 2), ("b", 2))), (TALK, (("a", 2), ("b", 0))),
            (TALK, (("a", 2), ("b", -1))), (TALK, (("a", 1), ("b", 1))), (TALK, (("z", 2), ("b", 1))),
            # A LOG that is not alike.
            (((("a", 3, (0, 1)), machines[1]), messages), LAST),
            ((marks, tuple(sorted(messages + ((("a", 2), ("b", 2)),)))), LAST),
            ((machines, messages[:2]), LAST),
        ):
            self.assertIs(is_witness(*asked, thing), False, thing)
        # It may come later, and to a marked EVENT.
        later = ((machines[0], ("b", 5, (0, 4))), messages[:1] + ((("a", 2), ("b", 4)),) + messages[2:])
        self.assertIs(is_witness(*asked, (later, (("a", 2), ("b", 4)))), True)
        # Not where b hears of it in another way.
        heard = ((("a", 4, (0, 1, 2)), ("b", 3, (0,)), ("c", 1, ())), messages[:1] + (
            (("a", 2), ("b", 2)), (("a", 3), ("c", 0)), (("b", 0), ("a", 1)), (("c", 0), ("b", 1)),
        ))
        self.assertIs(is_log(heard), True)
        self.assertIs(is_witness(*asked, (heard, (("a", 2), ("b", 2)))), False)
        # Not for an ENTRY that b has.
        self.assertIs(is_witness(TALK, TWO, LAST, 1, False, (TALK, LAST)), False)

    def test_the_log_must_be_in_order_where_it_is_asked(self):
        machines = (("a", 3, (0, 1, 2)), ("b", 3, ()))
        first, second, third = (("a", 0), ("b", 0)), (("a", 1), ("b", 1)), (("a", 2), ("b", 2))
        log = (machines, (first, second, third))
        crossed = (machines, ((("a", 0), ("b", 0)), (("a", 1), ("b", 2)), (("a", 2), ("b", 1))))
        told = (("a", 2), ("b", 1))
        self.assertIs(is_witness(log, A_ROW, third, 0, False, (crossed, told)), True)
        self.assertIs(is_witness(log, A_ROW, third, 0, True, (crossed, told)), False)
        self.assertIs(is_witness(log, A_ROW, third, 0, True, (log, third)), True)
        # Also if other messages are out of order, which do not matter for this one.
        further = (("c", 2, ()), ("d", 2, ()))
        wild = (machines + further, log[1] + ((("c", 0), ("d", 1)), (("c", 1), ("d", 0))))
        self.assertIs(is_witness(log, A_ROW, third, 0, False, (wild, third)), True)
        self.assertIs(is_witness(log, A_ROW, third, 0, True, (wild, third)), False)

    def test_only_counted_events_up_to_the_sender_are_told_of(self):
        # b has counted on, but on what was ahead of sent it has nothing yet.
        log = (
            (("a", 1, (0,)), ("b", 2, (1,)), ("c", 1, (0,))),
            ((("a", 0), ("b", 1)), (("a", 0), ("c", 0))),
        )
        rows, message = ((("a", 0), ("b", 1)), (("c", 0),)), (("a", 0), ("b", 1))
        self.assertEqual(must_carry(log, rows, message), ((0, 1),))
        self.assertIs(is_witness(log, rows, message, 0, False, (log, message)), True)
        self.assertIs(is_witness(log, rows, message, 1, False, (log, message)), False)
        self.assertIs(witness(log, rows, message, 1), None)

    def test_logs_beyond_all_bounds(self):
        far = 10**30
        machines = (("a", far, (0, 1, 2)), ("b", far + 1, (0, far)), ("zz", far, (far - 1,)))
        told = (("a", 2), ("b", far))
        big = (machines, (TALK[1][0], told, TALK[1][2]))
        self.assertIs(is_witness(TALK, TWO, LAST, 0, False, (big, told)), True)
        self.assertIs(is_witness(TALK, TWO, LAST, 1, False, (big, told)), False)
        self.assertIs(is_witness(TALK, TWO, LAST, 0, True, (big, told)), True)
        other = (machines, (TALK[1][0], (("a", 2), ("b", 1)), TALK[1][2], (("zz", far - 2), ("a", 1))))
        self.assertIs(is_witness(TALK, TWO, LAST, 0, False, (other, LAST)), False)

    def test_things_of_any_kind(self):
        for thing in JUNK + tuple((TALK, junk) for junk in JUNK) + tuple((junk, LAST) for junk in JUNK):
            self.assertIs(is_witness(TALK, TWO, LAST, 0, False, thing), False)
            self.assertIs(is_witness(TALK, TWO, LAST, 0, True, thing), False)

    def test_errors_come_whatever_thing_is(self):
        for thing in (None, 7, (CROSSED, CROSSED[1][0])):
            error = caught_by(self, OutOfOrder, is_witness, CROSSED, A_ROW, CROSSED[1][2], 0, True, thing)
            self.assertEqual((error.one, error.other), CROSSED[1][:2])
            caught_by(self, NoMessage, is_witness, CROSSED, A_ROW, (("a", 0), ("b", 0)), 0, True, thing)
            caught_by(self, NoMessage, is_witness, TALK, TWO, (("a", 0), ("b", 1)), 0, False, thing)


class News(unittest.TestCase):
    def test_by_hand(self):
        self.assertEqual(news(TALK, TWO, ("b", 0)), ((0, 1),))
        self.assertEqual(news(TALK, TWO, ("b", 1)), ((0, 3),))
        # The own number of a counted EVENT is no news, nor is what was brought before.
        self.assertEqual(news(TALK, TWO, ("a", 0)), ())
        self.assertEqual(news(TALK, TWO, ("a", 2)), ())
        self.assertEqual(news(ROUND, ROUND_ROW, ("c", 1)), ((0, 2),))
        self.assertEqual(news(TALK, (), ("b", 0)), ())
        self.assertEqual(news(TALK, ((),), ("b", 0)), ())

    def test_late_by_hand(self):
        # b tells c of a 0 and of itself: what a tells c is no news then, for the number of the ROW is 2.
        self.assertEqual(late(ROUND, ROUND_ROW, (("a", 0), ("c", 1))), ((0, 1),))
        self.assertEqual(late(ROUND, ROUND_ROW, (("b", 0), ("c", 1))), ())
        rows = ((("a", 0),), (("b", 0),))
        self.assertEqual(must_carry(ROUND, rows, (("b", 0), ("c", 1))), ((0, 1), (1, 1)))
        # The lesser message has it, too.
        self.assertEqual(late(ROUND, rows, (("a", 0), ("c", 1))), ())
        self.assertEqual(late(ROUND, rows, (("b", 0), ("c", 1))), ((0, 1),))
        self.assertEqual(late(CROSSED, A_ROW, CROSSED[1][0]), ((0, 1),))
        self.assertEqual(totals(ROUND, ROUND_ROW), [(3, 2)])
        self.assertEqual(totals(ROUND, rows), [(3, 2), (1, 1)])

    def test_against_the_definition(self):
        lates = 0
        for log, counters, in_order in drawn(93, 40) + full(94, 2):
            for event in all_events(log):
                self.assertEqual(news(log, counters, event), right_news(log, counters, event), (log, event))
            for message in log[1]:
                right = right_late(log, counters, message, in_order)
                lates += len(right)
                self.assertEqual(late(log, counters, message, in_order), right, (log, counters, message))
        self.assertGreater(lates, 30)

    def test_totals(self):
        for log, counters, in_order in drawn(95, 40) + full(96, 2):
            carried, fresh, lates = [], [], []
            for message in log[1]:
                carried += [one for one, _ in right_entries_fast(log, counters, message, in_order)]
                lates += [one for one, _ in right_late(log, counters, message, in_order)]
            for event in all_events(log):
                fresh += [one for one, _ in right_news(log, counters, event)]
            right = [(carried.count(one), fresh.count(one)) for one in range(len(counters))]
            self.assertEqual(totals(log, counters, in_order), right)
            self.assertEqual([one - two for one, two in right], [lates.count(one) for one in range(len(counters))])

    def test_totals_of_little(self):
        for log in (EMPTY, BARE_MACHINES, UNMARKED):
            self.assertEqual(totals(log, ()), [])
            self.assertEqual(totals(log, ((), ()), True), [(0, 0), (0, 0)])

    def test_by_last(self):
        more = 0
        for log, counters, in_order in drawn(97, 40) + full(98, 2):
            for message in log[1]:
                senders = earlier_senders(log, message)
                last = right_stamp(log, counters, max(senders)) if senders else (0,) * len(counters)
                right = above(right_stamp(log, counters, message[0]), last)
                self.assertEqual(by_last(log, counters, message), right)
                if in_order:
                    carried = must_carry(log, counters, message, True)
                    self.assertLessEqual(set(carried), set(right))
                    more += len(right) - len(carried)
        self.assertGreater(more, 10)

    def test_an_event_that_is_not_there(self):
        for event in (("a", 3), ("d", 0), ("a", -1)):
            for how in (tuple, list):
                error = caught_by(self, NoEvent, news, LOG, COUNTERS, how(event))
                self.assertEqual(repr(error.event), repr(event))


class Known(unittest.TestCase):
    def test_by_hand(self):
        self.assertEqual(known_of(TALK, TWO, ("a", 2), "a"), (3, 1))
        self.assertEqual(known_of(TALK, TWO, ("a", 0), "b"), (0, 0))
        self.assertEqual(known_of(TALK, TWO, ("b", 1), "b"), (3, 1))
        self.assertEqual(known_of(TALK, (), ("b", 1), "b"), ())
        # A MACHINE without EVENTs is there, too.
        log = (TALK[0] + (("c", 0, ()),), TALK[1])
        self.assertEqual(known_of(log, TWO, ("a", 2), "c"), (0, 0))

    def test_against_the_definition(self):
        for log, counters, _ in drawn(99, 24) + full(100, 2):
            for event in all_events(log):
                for name, _, _ in log[0]:
                    own = [one for one in known_at(log, event) if one[0] == name]
                    right = right_stamp(log, counters, max(own)) if own else (0,) * len(counters)
                    self.assertEqual(known_of(log, counters, event, name), right)

    def test_it_is_what_one_has_surely(self):
        for log, counters, _ in drawn(101, 20):
            for message in log[1]:
                self.assertEqual(
                    has_surely(log, counters, message), known_of(log, counters, message[0], message[1][0]),
                )

    def test_what_is_not_there(self):
        for event in (("a", 3), ("d", 0), ("b", -1)):
            for how in (tuple, list):
                error = caught_by(self, NoEvent, known_of, LOG, COUNTERS, how(event), "d")
                self.assertEqual(repr(error.event), repr(event))
        for name in ("d", "", "A", "abcdefghi"):
            self.assertEqual(caught_by(self, NoMachine, known_of, LOG, COUNTERS, ("a", 0), name).name, name)

    def test_by_machines(self):
        self.assertEqual(by_machines(LOG), (
            (("a", 0), ("a", 1), ("a", 2)), (("b", 0), ("b", 2)), (("c", 0), ("c", 1)),
        ))
        for log in (EMPTY, BARE_MACHINES, UNMARKED):
            self.assertEqual(by_machines(log), ())
        for log in list(LOGS) + random_logs(102, 50):
            found = by_machines(log)
            self.assertIs(are_counters(log, found), True)
            self.assertEqual(counted(found), marked_events(log))
            names = [row[0][0] for row in found]
            self.assertEqual(names, sorted(set(names)))
            self.assertTrue(all(event[0] == name for name, row in zip(names, found) for event in row))


class NoMessages(unittest.TestCase):
    def test_messages_that_are_not_there(self):
        for log, message in (
            (TALK, (("a", 0), ("b", 1))), (TALK, (("b", 0), ("a", 0))), (TALK, (("a", 9), ("b", 0))),
            (TALK, (("q", 0), ("r", -1))), (EMPTY, LAST), (CROSSED, (("a", 0), ("b", 0))),
        ):
            for how in (tuple, listed, mixed):
                for call in ASKING + (by_last,):
                    error = caught_by(self, NoMessage, call, log, A_ROW, how(message))
                    self.assertEqual(repr(error.message), repr(message))
                for call in ASKING:
                    # Ahead of all that is out of order.
                    error = caught_by(self, NoMessage, call, log, A_ROW, how(message), True)
                    self.assertEqual(repr(error.message), repr(message))
                for in_order in (False, True):
                    error = caught_by(self, NoMessage, witness, log, A_ROW, how(message), 0, in_order)
                    self.assertEqual(repr(error.message), repr(message))
                    error = caught_by(self, NoMessage, is_witness, log, A_ROW, how(message), 0, in_order, None)
                    self.assertEqual(repr(error.message), repr(message))


if __name__ == "__main__":
    unittest.main()
