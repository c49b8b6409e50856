"""The guarantees of [1] between the sections."""

import random
import unittest

from fewstamps.book import Book
from fewstamps.carry import by_machines, totals
from fewstamps.data import coming, events, is_ahead, marked
from fewstamps.desk import answers
from fewstamps.growing import (
    bar, elder_log, fewest_on, gains_on, go_on, going_on, is_stand, lets, new_marked, stair_costs, stairs,
)
from fewstamps.more import best_message, saving, width
from fewstamps.shape import best_counters, best_cuts, fewest_for, fits, fitting, gains, most_counted, most_cut, raised
from fewstamps.stamps import are_counters, counted, stamps
from fewstamps.texts import counters_in, counters_text, log_in, log_text, stamp_text
from fewstamps.told import is_order, is_sheet, open_pairs, orders, sheet, tells
from tests.brute import drawn_logs, full_logs
from tests.helpers import BARE_MACHINES, EMPTY, LOG, LOGS, random_counters, random_logs
from tests.posts import busy_logs
from tests.test_book import drawn_book


def some_logs(seed, many):
    return list(LOGS) + random_logs(seed, many) + full_logs(seed, 3) + busy_logs(seed, many)


class Counting(unittest.TestCase):
    def test_counters_and_cuts_show_each_other(self):
        """Guarantee (a)."""
        for log in some_logs(151, 25):
            grown = gains(log) + [0]
            self.assertEqual(len(gains(log)), width(log))
            for many in range(width(log) + 2):
                low = grown[many] if many < len(grown) else 0
                for height in range(low, (grown[many - 1] if 0 < many <= len(grown) else low) + 1):
                    pair = fitting(log, many, height)
                    self.assertIs(fits(log, pair), True)
                    self.assertEqual(len(counted(pair[0])), most_counted(log, many))
                    self.assertEqual(sum(map(len, pair[1])), most_cut(log, height))
                    both = most_counted(log, many) + most_cut(log, height)
                    self.assertEqual(both, len(marked(log)) + many * height)
            self.assertEqual(fewest_for(log, len(marked(log))), width(log))
            self.assertEqual(len(counted(best_counters(log, width(log)))), len(marked(log)))
            self.assertEqual(max(map(len, best_cuts(log, 1))), width(log))


class Telling(unittest.TestCase):
    def test_stamps_tell_just_what_all_orders_do(self):
        """Guarantee (b), with STAMPs that were written and read again."""
        rng = random.Random(152)
        for log in some_logs(153, 20):
            counters = random_counters(rng, log)
            read = log_in(log_text(log))
            told = sheet(read, counters_in(read, counters_text(counters)))
            self.assertEqual(told, sheet(log, counters))
            self.assertIs(is_sheet(told), True)
            self.assertEqual([stamp_text(line[2]) for line in told], [stamp_text(one) for _, one in stamps(log, counters)])
            for one, other in open_pairs(told)[:6]:
                first, second = orders(told, one, other)
                self.assertTrue(is_order(told, first) and is_order(told, second))
                self.assertTrue((one, other) not in first and (one, other) in second)
            for one in marked(log)[:5]:
                for other in marked(log):
                    found = tells(told, one, other)
                    if found != "open":
                        self.assertIs(is_ahead(log, one, other), found == "ahead")

    def test_with_all_counted_nothing_is_open(self):
        for log in some_logs(154, 20):
            for counters in (by_machines(log), best_counters(log, width(log))):
                self.assertEqual(open_pairs(sheet(log, counters)), [])


class Growing(unittest.TestCase):
    def test_the_rule_of_stairs_in_a_book(self):
        """Guarantee (c): where a Book puts its EVENTs by the rule, none is refused, and few counters do."""
        rng = random.Random(155)
        for _ in range(30):
            log = drawn_book(rng, False, 18)[0].log()
            put = {event: counter for event, counter, _ in stairs(log)}
            book, names = replayed(log, put)
            self.assertEqual(book.log(), log)
            self.assertEqual(counted(book.counters()), marked(log))
            self.assertLessEqual(len(book.counters()), width(log) * (width(log) + 1) // 2)
            self.assertEqual(len(book.counters()), len(names))
            self.assertEqual(book.raised(), raised(log))
            if marked(log):
                event, used, wide, later = stair_costs(log)[-1]
                self.assertEqual((used, wide, later), (len(names), width(log), used))

    def test_a_book_goes_on_from_each_of_its_moments(self):
        rng = random.Random(156)
        for _ in range(30):
            moments = []
            book, _ = drawn_book(rng, False, 16, check=lambda one, right, word, values: moments.append(
                (do(one, right, word, values), one.log(), one.counters())))
            log = book.log()
            for _, elder, counters in moments[::4]:
                stand = tuple(many for _, many, _ in elder[0])
                self.assertIs(is_stand(log, stand), True)
                self.assertEqual(elder_log(log, stand), elder)
                self.assertIs(go_on(log, stand, counters, book.counters()), True)
                further = len(book.counters()) - len(counters)
                most = sum(gains_on(log, stand, counters)[:further + 1])
                self.assertLessEqual(len(counted(book.counters())) - len(counted(counters)), most)
                self.assertEqual(lets(log, stand, counters, bar(log, stand, counters, further), further), most)
                many = fewest_on(log, stand, counters)
                every = going_on(log, stand, counters, many)
                self.assertEqual(len(counted(every)) - len(counted(counters)), len(new_marked(log, stand)))


class Saving(unittest.TestCase):
    def test_the_desk_does_what_is_best(self):
        """Guarantee (e), by requests alone."""
        found = 0
        for log in [LOG, EMPTY, BARE_MACHINES] + drawn_logs(157, 40, 2, 8):
            lines = log_text(log).split("\n") if log[0] else []
            text = "\n".join(lines + ["", "none"])
            first, best = answers(text + "\nwidth\nbest")
            self.assertEqual(int(first), width(log))
            self.assertEqual(best == "-", best_message(log) is None)
            if best != "-":
                done, after = answers(text + "\nmessage " + best.replace("> ", "") + "\nwidth")
                self.assertEqual(done, "done")
                self.assertEqual(int(first) - int(after), max(many for _, _, many in saving(log)))
                found += 1
        self.assertGreater(found, 15)


class Carrying(unittest.TestCase):
    def test_a_book_carries_as_much_as_all_messages_of_its_log_must(self):
        """Guarantees (d) and (f), where no message was lost."""
        rng = random.Random(158)
        found = 0
        for count in range(30):
            book, right = drawn_book(rng, count % 2 == 1, 18)
            for number in book.under_way():
                book.come(number)
                right.come(number)
            if len(book.log()[1]) == len(right.sent):
                carried = [counter for number in range(len(right.sent)) for counter, _ in book.entries(number)]
                many = [one for one, _ in totals(book.log(), book.counters(), count % 2 == 1)]
                self.assertEqual([carried.count(counter) for counter in range(len(many))], many)
                found += sum(many) > 0
        self.assertGreater(found, 10)


def do(book, right, word, values):
    """The same call on both, whether it is refused or not."""
    for one in (book, right):
        try:
            getattr(one, word)(*values)
        except Exception:
            pass


def replayed(log, put):
    """A Book with this log, its EVENTs done as they can come, and the numbers of put as its counters appeared."""
    book, names, numbers = Book([name for name, _, _ in log[0]]), [], {}
    for event in coming(log):
        came = [message for message in log[1] if message[1] == event]
        if came:
            book.come(numbers[came[0]])
        elif event in put:
            if put[event] not in names:
                names.append(put[event])
            book.mark(event[0], names.index(put[event]))
        else:
            book.happen(event[0])
        for message in log[1]:
            if message[0] == event:
                numbers[message] = book.send(event[0], message[1][0])
    assert list(book) == [tuple(event) for event in coming(log)] and len(book) == len(events(log))
    return book, names


class Whole(unittest.TestCase):
    def test_counters_of_all_kinds_are_counters(self):
        for log in some_logs(159, 20):
            rows = {}
            for event, counter, _ in stairs(log):
                rows.setdefault(counter, []).append(event)
            for found in (by_machines(log), best_counters(log, 2), tuple(tuple(row) for row in rows.values())):
                self.assertIs(are_counters(log, found), True)
                self.assertEqual(counters_in(log, counters_text(found)), found)


if __name__ == "__main__":
    unittest.main()
