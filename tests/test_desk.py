"""desk.py: [12]."""

import random
import unittest

from fewstamps.data import is_log
from fewstamps.desk import answers
from fewstamps.errors import BadLine
from fewstamps.stamps import are_counters
from fewstamps.texts import counters_text, log_text
from tests.brute import drawn_logs
from tests.helpers import (
    BARE_MACHINES, BOUND, COUNTERS, EMPTY, LOG, all_events, marked_events, random_counters,
)
from tests.posts import busy_logs
from tests.scribe import RightDesk, right_answers, right_request
from tests.test_texts import ODD, spoiled

LINES = ["a ###", "b #.#", "c ##", "a 0 > b 1", "b 1 > c 1"]
ROWS = "a 0, a 1, a 2 | b 0, c 1"
# The forms of the requests, each with one that may be asked of LOG.
ASKED = (
    "ahead a 0 c 1", "past c 1", "stamp c 1", "tells b 2 c 1", "width", "best", "event a", "mark a 0", "mark a -",
    "message a 2 b 2", "counters a 0 | -", "counters none", "counters ", "counters  | x",
)


def text_of(*requests, lines=LINES, rows=ROWS):
    return "\n".join(list(lines) + ["", rows] + list(requests))


def ask(*requests, **how):
    return answers(text_of(*requests, **how))


def bad_line(case, text):
    with case.assertRaises(BadLine) as caught:
        answers(text)
    return caught.exception.number


def found_answers(text):
    try:
        return answers(text)
    except BadLine as error:
        return error.number


def request_words(rng, desk):
    """A request that may be refused, but is well written."""
    names = [name for name, _, _ in desk.log[0]] + ["a", "zz"]
    every = all_events(desk.log) + [("a", 99)] * (rng.random() < 0.2) or [("a", 0)]
    one, other = [f"{name} {number}" for name, number in (rng.choice(every), rng.choice(every))]
    word = rng.choice(("ahead", "past", "stamp", "tells", "width", "event", "mark", "mark", "mark", "message", "counters"))
    if word in ("ahead", "tells", "message"):
        return f"{word} {one} {other}"
    if word in ("past", "stamp"):
        return f"{word} {one}"
    if word == "event":
        return f"event {rng.choice(names)}"
    if word == "mark":
        return f"mark {rng.choice(names)} {rng.choice(['-', 0, 1, len(desk.counters), len(desk.counters) + 1])}"
    if word == "counters":
        text = counters_text(random_counters(rng, desk.log))
        return "counters " + (text if rng.random() < 0.7 else spoiled(rng, text, "ab-01,|  "))
    return word


def drawn_requests(rng, log, counters, many):
    """So many requests, and the desk of this LOG and these COUNTERS behind them."""
    desk = RightDesk(log, counters)
    found = []
    for _ in range(many):
        line = request_words(rng, desk)
        if "\n" not in line:
            found.append(line)
            word, words = right_request(line)
            desk.answer("counters_text" if word == "counters" else word, words)
    return found, desk


class Queries(unittest.TestCase):
    def test_by_hand(self):
        self.assertEqual(
            ask("ahead a 0 c 1", "ahead c 1 a 0", "ahead a 0 a 0", "past c 1", "past a 0", "stamp b 2", "stamp a 0"),
            ["yes", "no", "no", "a 0, b 0, b 1, c 0", "-", "1 1", "1 0"],
        )
        self.assertEqual(
            ask("tells b 2 c 1", "tells b 2 a 2", "tells a 0 b 2", "tells a 0 a 0", "width", "best"),
            ["open", "not", "ahead", "not", "3", "a 2 > b 0"],
        )

    def test_of_little(self):
        self.assertEqual(answers("\nnone"), [])
        self.assertEqual(answers("\n-"), [])
        self.assertEqual(answers("\nnone\nwidth\nbest"), ["0", "-"])
        self.assertEqual(answers("a -\nb -\n\n- | -\nwidth\nbest\nevent b\nstamp b 0"), ["0", "-", "done", "0 0"])
        self.assertEqual(answers("a #\n\nnone\nstamp a 0\nbest\npast a 0"), ["-", "-", "-"])
        self.assertEqual(ask(), [])

    def test_of_logs(self):
        rng = random.Random(131)
        for log in [LOG, EMPTY, BARE_MACHINES] + drawn_logs(132, 12, 0, 7):
            counters = random_counters(rng, log)
            every, marked = all_events(log), marked_events(log)
            requests = ["width", "best"]
            for name, number in every:
                requests += [f"past {name} {number}", f"stamp {name} {number}"]
                requests += [f"ahead {name} {number} {other} {place}" for other, place in every]
            for name, number in marked:
                requests += [f"tells {name} {number} {other} {place}" for other, place in marked]
            text = text_of(*requests, lines=log_text(log).split("\n") if log[0] else (), rows=counters_text(counters))
            self.assertEqual(answers(text), right_answers(text))

    def test_by_name(self):
        self.assertEqual(answers(text=text_of("width")), ["3"])


class Changes(unittest.TestCase):
    def test_by_hand(self):
        self.assertEqual(
            ask("event a", "past a 3", "stamp a 3", "tells a 3 a 0", "message a 3 b 2", "ahead a 2 b 2", "width"),
            ["done", "a 0, a 1, a 2", "3 0", "refused NoEvent", "done", "yes", "3"],
        )
        self.assertEqual(
            ask("mark b 0", "mark b 1", "mark b -", "mark b 2", "stamp b 4", "tells b 3 b 4"),
            ["refused NotBehind", "refused NotBehind", "done", "done", "1 1 1", "open"],
        )
        self.assertEqual(ask("mark a 0", "stamp a 3", "mark c 1", "stamp c 2"), ["done", "4 0", "done", "1 3"])
        self.assertEqual(
            ask("counters none", "stamp c 1", "counters - | c 0", "stamp c 1", "mark b 0", "stamp b 3"),
            ["done", "-", "done", "0 1", "done", "1 0"],
        )

    def test_a_bare_counter_takes_any_event_and_a_new_one_is_the_next(self):
        self.assertEqual(
            ask("mark b 0", "mark a 0", "mark a 1", "mark b 2", "stamp a 3", "stamp b 4", rows="-"),
            ["done", "refused NotBehind", "done", "done", "0 1 0", "1 0 1"],
        )
        rows = "none"
        self.assertEqual(ask("mark a 1", "mark a 0", "stamp a 3", rows=rows), ["refused NoCounter", "done", "1"])
        self.assertEqual(ask("mark a 99", "mark zz 99", rows=rows), ["refused NoCounter", "refused NoMachine"])

    def test_all_stays_if_a_request_is_refused(self):
        queries = ["width", "best", "past c 1", "stamp c 1", "stamp a 2", "tells b 2 c 1", "ahead a 2 b 2"]
        right = ask(*queries)
        for request, why in (
            ("ahead a 3 a 0", "NoEvent"), ("ahead a 0 d 0", "NoEvent"), ("past b 3", "NoEvent"), ("stamp d 0", "NoEvent"),
            ("tells b 1 b 0", "NoEvent"), ("tells a 0 b 1", "NoEvent"), ("tells a 9 b 1", "NoEvent"),
            ("event d", "NoMachine"), ("mark d 0", "NoMachine"), ("mark d -", "NoMachine"), ("mark d 3", "NoMachine"),
            ("mark a 3", "NoCounter"), ("mark a 99", "NoCounter"), ("mark b 0", "NotBehind"), ("mark b 1", "NotBehind"),
            ("message b 2 a 0", "Backwards"), ("message a 0 a 1", "Backwards"), ("message a 0 a 0", "Backwards"),
            ("message c 1 a 0", "Backwards"), ("message a 0 b 3", "NoEvent"), ("message d 0 a 0", "NoEvent"),
            ("message a 7 a 8", "NoEvent"),
            ("counters ", "BadRow"), ("counters  none", "BadRow"), ("counters none ", "BadRow"), ("counters b 1", "BadRow"),
            ("counters a 0 | a 0", "BadRow"), ("counters counters none", "BadRow"), ("counters a 1, a 0", "BadRow"),
        ):
            self.assertEqual(ask(request, *queries), ["refused " + why] + right, request)
            # The next EVENT of a MACHINE and the next counter are those that they would have been.
            self.assertEqual(ask(request, "mark a 2", "stamp a 3"), ["refused " + why, "done", "3 0 1"])

    def test_a_message_that_is_there_is_done(self):
        self.assertEqual(ask("message a 0 b 1", "message a 0 b 1", "past b 1"), ["done", "done", "a 0, b 0"])

    def test_a_message_changes_stamps(self):
        self.assertEqual(
            ask("stamp b 2", "tells a 2 b 2", "message a 2 b 2", "stamp b 2", "tells a 2 b 2", "mark b 0", "stamp b 3"),
            ["1 1", "not", "done", "3 1", "ahead", "done", "4 1"],
        )

    def test_drawn_requests(self):
        rng = random.Random(133)
        seen = {}
        for log in [LOG, EMPTY, BARE_MACHINES] + drawn_logs(134, 25, 0, 6) + busy_logs(135, 15, steps=6, most=4):
            counters = random_counters(rng, log)
            requests, desk = drawn_requests(rng, log, counters, 14)
            self.assertIs(is_log(desk.log), True)
            self.assertIs(are_counters(desk.log, desk.counters), True)
            lines = log_text(log).split("\n") if log[0] else ()
            text = text_of(*requests, lines=lines, rows=counters_text(counters))
            found = answers(text)
            self.assertEqual(found, right_answers(text), text)
            for one in found:
                seen[one] = seen.get(one, 0) + 1
            # A desk on which all this was done goes on as one that begins there.
            if desk.log[0]:
                later, _ = drawn_requests(rng, desk.log, desk.counters, 5)
                begun = text_of(*later, lines=log_text(desk.log).split("\n"), rows=counters_text(desk.counters))
                self.assertEqual(answers("\n".join([text] + later))[len(found):], answers(begun))
        for one in ("done", "yes", "no", "open", "not", "ahead", "refused NoEvent", "refused NoMachine"):
            self.assertGreater(seen.get(one, 0), 2, one)
        for one in ("refused NoCounter", "refused NotBehind", "refused Backwards", "refused BadRow"):
            self.assertGreater(seen.get(one, 0), 2, one)

    def test_at_the_bounds(self):
        rows = "alpha 0, b 1, c 1, machines 2 | dd 0, alpha 3 | -"
        requests = ["stamp machines 2", "past machines 2", "tells alpha 0 c 1", "width", "ahead b 1 alpha 3"]
        text = text_of(*requests, lines=log_text(BOUND).split("\n"), rows=rows)
        self.assertEqual(answers(text), right_answers(text))


class Lines(unittest.TestCase):
    def test_what_is_missing(self):
        for text, number in (
            ("", 1), ("a #", 1), ("a #\nb #", 2), ("a #\n", 2), ("a #\nb #\n", 3), (log_text(LOG), 5),
            (log_text(LOG) + "\n", 6),
        ):
            self.assertEqual(bad_line(self, text), number, text)
            self.assertEqual(right_answers(text), number, text)

    def test_lines_of_the_log(self):
        for text, number in (
            ("x", 0), ("a #\nx", 1), ("a #\na #\n\nnone", 1), ("a #\nb #\na 0 > b 0\nb 0 > a 0\n\nnone\nwidth", 3),
            ("x\n", 0), ("x\n\nx\nx", 0), (" \n\nnone", 0), ("a # \n\nnone", 0), ("b #\na #\n", 1),
        ):
            self.assertEqual(bad_line(self, text), number, text)

    def test_the_line_of_the_counters(self):
        for text, number in (
            ("a #\n\n", 2), ("\n", 1), ("a #\n\nx", 2), ("a #\n\nb 0\nx", 2), ("a ##\n\na 1, a 0", 2), ("a #\n\na 0 | a 0", 2),
            ("\n\nnone", 1), ("a #\n\n\nnone", 2), ("a #\n\nnone \nwidth", 2), ("a .\n\na 0", 2), ("\na 0", 1),
        ):
            self.assertEqual(bad_line(self, text), number, text)
            self.assertEqual(right_answers(text), number, text)

    def test_lines_of_requests(self):
        for line in (
            "", " ", "x", "Width", "width ", " width", "width 0", "best a", "ahead", "ahead ", "ahead a 0", "ahead a 0 c",
            "ahead a 0 c 1 ", "ahead a 0 c 1 a 0", "ahead  a 0 c 1", "ahead a 0  c 1", "ahead a 00 c 1", "ahead a 0 c 100",
            "ahead a -1 c 1", "ahead A 0 c 1", "ahead abcdefghi 0 c 1", "ahead a 0 > c 1", "ahead 0 a 1 c", "past", "past a",
            "past a 0 b", "stamp a 01", "tells a 0", "event", "event ", "event A", "event a 0", "event abcdefghi", "event -",
            "mark a", "mark a ", "mark a 0 1", "mark a 00", "mark a 100", "mark a --", "mark - a", "mark a -1", "mark A 0",
            "mark a none", "message a 0 > b 0", "message a 0 b", "message a 0", "counters", "counter none", "Counters none",
            "counters\tnone", "none", "-", "a #", "a 0 > b 1", "width\r", "ahead a 0 c 1\t",
        ):
            self.assertIsNone(right_request(line), line)
            self.assertEqual(bad_line(self, text_of(line)), 7, line)
            self.assertEqual(bad_line(self, text_of("width", "mark d 0", line, "x")), 9, line)

    def test_odd_signs(self):
        for sign in ODD:
            for line in (f"past a {sign}", f"event {sign}", f"width{sign}", f"ahead a 0{sign}c 1", f"mark a {sign}"):
                self.assertEqual(bad_line(self, text_of(line)), 7, repr(line))
            self.assertEqual(ask(f"counters {sign}", f"counters none{sign}"), ["refused BadRow"] * 2)

    def test_each_request_alone(self):
        right = ["yes", "a 0, b 0, b 1, c 0", "1 2", "open", "3", "a 2 > b 0"] + ["done"] * 6 + ["refused BadRow"] * 2
        self.assertEqual([ask(request) for request in ASKED], [[answer] for answer in right])

    def test_no_answer_ahead_of_all_lines(self):
        # All lines are read first: a wrong one decides, whatever would be refused ahead of it.
        self.assertEqual(bad_line(self, text_of("counters x", "mark d 0", "width", "")), 10)
        self.assertEqual(bad_line(self, "a #\n\nb 0\nwidth\n"), 2)
        self.assertEqual(bad_line(self, "a #\na #\n\nb 0\nx"), 1)

    def test_texts_of_any_kind(self):
        rng = random.Random(136)
        seen = {True: 0, False: 0}
        for log in [LOG, BARE_MACHINES] + drawn_logs(137, 50, 1, 5):
            counters = random_counters(rng, log)
            requests, _ = drawn_requests(rng, log, counters, 4)
            base = text_of(*requests, lines=log_text(log).split("\n") if log[0] else (), rows=counters_text(counters))
            for _ in range(6):
                text = spoiled(rng, base, "ab #.->|019\n\n  ")
                right = right_answers(text)
                self.assertEqual(found_answers(text), right, text)
                seen[isinstance(right, int)] += 1
        self.assertGreater(min(seen.values()), 30)

    def test_sixty_lines(self):
        requests = ["event a", "event b", "message a 3 b 3"] * 17 + ["width"]
        found = ask(*requests)
        self.assertEqual(found[-1], right_answers(text_of(*requests))[-1])
        self.assertEqual(len(text_of(*requests).split("\n")), 59)


class Log(unittest.TestCase):
    def test_the_examples_are_of_the_same_log(self):
        self.assertEqual(log_text(LOG).split("\n"), LINES)
        self.assertEqual(counters_text(COUNTERS), ROWS)


if __name__ == "__main__":
    unittest.main()
