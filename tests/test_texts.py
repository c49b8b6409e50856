"""texts.py: [11]."""

import random
import unittest

from fewstamps.data import is_log
from fewstamps.errors import BadLine, BadRow
from fewstamps.more import saving, width, with_message
from fewstamps.stamps import are_counters, stamp
from fewstamps.texts import counters_in, counters_text, log_in, log_text, stamp_text
from tests.brute import drawn_logs, full_logs
from tests.helpers import (
    BARE_MACHINES, BOUND, COUNTERS, EMPTY, LOG, LOGS, all_events, listed, mixed, random_counters, random_logs,
)
from tests.posts import busy_logs
from tests.scribe import right_counters, right_log

TEXT = "a ###\nb #.#\nc ##\na 0 > b 1\nb 1 > c 1"
# Signs that are no digits, letters or blanks here, though Python may take them for some.
ODD = ("\u0661", "\xb2", "\uff11", "\xe4", "\u0430", "\xa0", "\t", "\r", "\x0b", "\x1c", "\u2028", "_", "+", "A", "\x00")


def bad_line(case, text):
    with case.assertRaises(BadLine) as caught:
        log_in(text)
    return caught.exception.number


def bad_row(case, log, text):
    with case.assertRaises(BadRow) as caught:
        counters_in(log, text)
    return caught.exception.number


def found_log(text):
    try:
        return log_in(text)
    except BadLine as error:
        return error.number


def found_counters(log, text):
    try:
        return counters_in(log, text)
    except BadRow as error:
        return error.number


def spoiled(rng, text, signs):
    """The text with one or two signs put in, left out or changed, or with two lines or words changed."""
    for _ in range(rng.randint(1, 2)):
        at = rng.randint(0, len(text))
        how = rng.randint(0, 4)
        if how == 0:
            text = text[:at] + rng.choice(signs) + text[at:]
        elif how == 1:
            text = text[:at] + text[at + 1:]
        elif how == 2:
            text = text[:at] + rng.choice(signs) + text[at + 1:]
        else:
            sign = rng.choice("\n ,|")
            parts = text.split(sign)
            one, other = rng.randrange(len(parts)), rng.randrange(len(parts))
            parts[one], parts[other] = parts[other], parts[one]
            if how == 4 and rng.random() < 0.5:
                parts.insert(one, parts[other])
            text = sign.join(parts)
    return text


class Logs(unittest.TestCase):
    def test_by_hand(self):
        for log, text in (
            (LOG, TEXT), (EMPTY, ""), (BARE_MACHINES, "a -\nb -"), (((("a", 3, ()),), ()), "a ..."),
            (((("abcdefgh", 1, (0,)), ("b", 0, ())), ()), "abcdefgh #\nb -"),
            (
                ((("a", 12, (10,)), ("b", 11, ())), ((("a", 9), ("b", 0)), (("a", 10), ("b", 10)))),
                "a ..........#.\nb ...........\na 9 > b 0\na 10 > b 10",
            ),
        ):
            for how in (tuple, listed, mixed):
                self.assertEqual(log_text(how(log)), text)
            self.assertEqual(repr(log_in(text)), repr(log))

    def test_what_is_written_reads_back(self):
        for log in list(LOGS) + random_logs(111, 150) + full_logs(112, 20) + busy_logs(113, 50):
            text = log_text(log)
            self.assertEqual(repr(log_in(text)), repr(log))
            self.assertEqual(right_log(text), log)
        self.assertEqual(len(log_text(BOUND).split("\n")), 21)

    def test_lines_that_are_wrong(self):
        for text, number in (
            # A line is not so written.
            ("\n", 0), ("a", 0), ("a ", 0), (" a #", 0), ("a # ", 0), ("a  #", 0), ("a #-", 0), ("a --", 0),
            ("a # #", 0), ("a x", 0), ("A #", 0), ("abcdefghi #", 0), ("a1 #", 0), ("#", 0), (" #", 0), ("-", 0),
            ("a #\n", 1), ("a #\n\nb #", 1), ("\na #", 0), ("a #\r\nb #", 0), ("a #\tb #", 0), ("a 3", 0),
            ("a #\nb #\na 0 >b 0", 2), ("a #\nb #\na 0>b 0", 2), ("a #\nb #\na 0 > b 0 ", 2), ("a #\nb #\na 0 > b", 2),
            ("a #\nb #\na 00 > b 0", 2), ("a #\nb #\na 0 > b 00", 2), ("a ##\nb #\na 01 > b 0", 2),
            ("a #\nb #\na -0 > b 0", 2), ("a #\nb #\na +0 > b 0", 2), ("a #\nb #\na 0 < b 0", 2),
            ("a #\nb #\na 0  > b 0", 2), ("a #\nb #\n a 0 > b 0", 2), ("a #\nb #\na 0 > b 0 > a 0", 2),
            ("a " + "#" * 101 + "\nb #\na 100 > b 0", 2),
            # A line cannot stand there.
            ("b #\na #", 1), ("a #\na #", 1), ("a #\nb #\na 0 > b 0\nc #", 3), ("a 0 > b 0", 0), ("a #\na 0 > b 0\nb #", 1),
            ("a #\nb #\na 1 > b 0", 2), ("a #\nb #\na 0 > b 1", 2), ("a #\nb #\na 0 > c 0", 2), ("a ##\na 0 > a 1", 1),
            ("a ##\nb #\na 1 > b 0\na 0 > b 0", 3), ("a #\nb #\na 0 > b 0\na 0 > b 0", 3),
            ("a ###########\nb #\na 10 > b 0\na 9 > b 0", 3),
            ("a #\nb #\na 0 > b 0\nb 0 > a 0", 3), ("a ##\nb ##\na 1 > b 0\nb 1 > a 0", 3),
            ("a #\nb #\nc #\na 0 > b 0\nb 0 > c 0\nc 0 > a 0", 5),
            # The first one that is wrong is told.
            ("a #\nb\nc", 1), ("b #\na #\nx", 1), ("a #\nb #\na 0 > b 0\nb 0 > a 0\nx", 3), ("a #\nx\na #", 1),
            ("a -\nb #\na 0 > b 0\nb", 2),
        ):
            self.assertEqual(bad_line(self, text), number, text)
            self.assertEqual(right_log(text), number, text)

    def test_odd_signs(self):
        for sign in ODD:
            for text, number in (
                (f"a #{sign}\nb #", 0), (f"{sign} #", 0), (f"a{sign} #", 0), (f"a #\nb #\na {sign} > b 0", 2),
                (f"a #\nb #\na 0 > b 0{sign}", 2), (f"a #\nb #\na 0{sign}> b 0", 2), (f"a #{sign}b #", 0),
            ):
                self.assertEqual(bad_line(self, text), number, repr(text))

    def test_two_digits_at_most(self):
        text = "a " + "." * 100 + "\nb #\na 99 > b 0"
        self.assertEqual(log_in(text)[1], ((("a", 99), ("b", 0)),))
        self.assertEqual(log_text(log_in(text)), text)

    def test_texts_of_any_kind(self):
        rng = random.Random(114)
        right = {True: 0, False: 0}
        for log in [LOG, BARE_MACHINES] + drawn_logs(115, 40, 1, 12) + busy_logs(116, 40, names="ab"):
            for _ in range(12):
                text = spoiled(rng, log_text(log), "abz #.->019\n\n  ")
                one = right_log(text)
                self.assertEqual(repr(found_log(text)), repr(one), text)
                right[isinstance(one, int)] += 1
                if not isinstance(one, int):
                    self.assertIs(is_log(one), True)
                    self.assertEqual(log_text(one), text)
        self.assertGreater(min(right.values()), 100)

    def test_sixty_lines(self):
        names = sorted(f"{one}{other}" for one in "abcdefgh" for other in "abcde")[:30]
        lines = [name + " ##" for name in names]
        lines += [f"{one} 1 > {other} 0" for one, other in zip(names, names[1:])]
        self.assertEqual(len(log_in("\n".join(lines))[1]), 29)
        # Behind all lines but the last one this would make a ring.
        self.assertEqual(bad_line(self, "\n".join(lines + [f"{names[-1]} 1 > {names[0]} 0"])), 59)


class Counters(unittest.TestCase):
    def test_by_hand(self):
        for counters, text in (
            (COUNTERS, "a 0, a 1, a 2 | b 0, c 1"), ((), "none"), (((),), "-"), (((), ()), "- | -"),
            (((), (("c", 0),), ()), "- | c 0 | -"), (((("a", 0), ("b", 2)),), "a 0, b 2"),
        ):
            for how in (tuple, listed, mixed):
                self.assertEqual(counters_text(how(counters)), text)
                self.assertEqual(repr(counters_in(how(LOG), text)), repr(counters))

    def test_what_is_written_reads_back(self):
        rng = random.Random(117)
        for log in list(LOGS) + random_logs(118, 100) + full_logs(119, 20) + busy_logs(120, 50):
            counters = random_counters(rng, log)
            text = counters_text(counters)
            self.assertEqual(repr(counters_in(log, text)), repr(counters))
            self.assertEqual(right_counters(log, text), counters)

    def test_parts_that_are_wrong(self):
        for text, number in (
            # A part is not so written.
            ("", 0), (" ", 0), ("|", 0), (" | ", 0), ("a 0 | ", 1), (" | a 0", 0), ("a 0 |", 0), ("a 0|b 0", 0),
            ("a 0,a 1", 0), ("a 0, ", 0), ("a 0, a", 0), ("a  0", 0), (" a 0", 0), ("a 0 ", 0), ("a 00", 0), ("a", 0),
            ("a 0 | b 0, -", 1), ("none | -", 0), ("- | none", 1), ("None", 0), ("none ", 0), ("--", 0), ("a 0 , a 1", 0),
            ("- | | -", 1), ("a 0\nb 0", 0), ("a 0 | a 1\n", 1), ("a 0; a 1", 0), ("a -1", 0), ("a 0 a 1", 0),
            ("a 0 |  | b 0", 1), ("A 0", 0), ("abcdefghi 0", 0),
            # It is no ROW of the LOG.
            ("a 3", 0), ("d 0", 0), ("b 1", 0), ("a 1, a 0", 0), ("a 0, a 0", 0), ("a 0, c 0", 0), ("a 1, b 2", 0),
            ("a 0 | b 0, a 2", 1), ("a 0, b 1, c 1", 0),
            # It has an EVENT that a part ahead of it has.
            ("a 0 | a 0", 1), ("a 0, a 1 | b 0 | a 1, a 2", 2), ("a 0 | - | a 0", 2),
            # The first one that is wrong is told.
            ("a 0 | a 0 | x", 1), ("a 0 | x | a 0", 1), ("b 1 | x", 0), ("a 0, b 2 | b 0, a 2", 1),
        ):
            self.assertEqual(bad_row(self, LOG, text), number, text)
            self.assertEqual(right_counters(LOG, text), number, text)
        self.assertEqual(bad_row(self, EMPTY, "a 0"), 0)
        self.assertEqual((counters_in(EMPTY, "none"), counters_in(EMPTY, "- | -")), ((), ((), ())))

    def test_odd_signs(self):
        for sign in ODD:
            for text, number in (
                (f"a 0{sign}", 0), (f"a {sign}", 0), (f"a{sign}0", 0), (f"a 0 | {sign} 0", 1), (f"-{sign}", 0),
                (f"a 0,{sign}a 1", 0), (f"none{sign}", 0),
            ):
                self.assertEqual(bad_row(self, LOG, text), number, repr(text))

    def test_texts_of_any_kind(self):
        rng = random.Random(121)
        right = {True: 0, False: 0}
        for log in [LOG] + drawn_logs(122, 60, 3, 12) + busy_logs(123, 40, names="ab"):
            for _ in range(12):
                text = spoiled(rng, counters_text(random_counters(rng, log)), "ab-01,|  ")
                one = right_counters(log, text)
                self.assertEqual(repr(found_counters(log, text)), repr(one), text)
                right[isinstance(one, int)] += 1
                if not isinstance(one, int):
                    self.assertIs(are_counters(log, one), True)
                    self.assertEqual(counters_text(one), text)
        self.assertGreater(min(right.values()), 100)


class Stamps(unittest.TestCase):
    def test_by_hand(self):
        for numbers, text in (((), "-"), ((0,), "0"), ((1, 2), "1 2"), ((12, 0, 3), "12 0 3")):
            self.assertEqual(stamp_text(numbers), text)
            self.assertEqual(stamp_text(list(numbers)), text)

    def test_of_logs(self):
        for event in all_events(LOG):
            numbers = stamp(LOG, COUNTERS, event)
            self.assertEqual(stamp_text(numbers), " ".join(map(str, numbers)))


class Saved(unittest.TestCase):
    def test_a_further_line_saves_so_many_counters(self):
        """Guarantee (e) of [1] with [10] and [11]: the message that is put into the text is that of the LOG."""
        found = 0
        for log in [LOG] + drawn_logs(124, 40, 3, 8):
            for (name, number), (other, place), many in saving(log):
                lines = log_text(log).split("\n")
                machines, messages = lines[:len(log[0])], lines[len(log[0]):]
                messages.append(f"{name} {number} > {other} {place}")
                messages.sort()
                grown = log_in("\n".join(machines + messages))
                self.assertEqual(grown, with_message(log, (name, number), (other, place)))
                self.assertEqual(width(log) - width(grown), many)
                found += 1
        self.assertGreater(found, 50)


if __name__ == "__main__":
    unittest.main()
