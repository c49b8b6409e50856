"""Texts and the desk, straight as the document says it, without the package."""

import re

from tests.brute import all_cuts, renamed_order
from tests.helpers import ahead_pairs, all_events, marked_events
from tests.posts import known_at, right_stamp

NAME = "[a-z]{1,8}"
NUMBER = "(?:0|[1-9][0-9]?)"
EVENT = f"({NAME}) ({NUMBER})"


def words_of(form, text):
    found = re.fullmatch(form, text, re.ASCII)
    return None if found is None else found.groups()


def pairs_of(words):
    return [(name, int(number)) for name, number in zip(words[::2], words[1::2])]


def is_ring(machines, messages):
    pairs = ahead_pairs((machines, tuple(messages)))
    return any((event, event) in pairs for event in all_events((machines, ())))


def right_log(text):
    """The LOG with this text, or the number of the first line that is wrong."""
    machines, messages = [], []
    for at, line in enumerate(text.split("\n") if text else []):
        one = words_of(f"({NAME}) ([#.]+|-)", line)
        two = words_of(f"{EVENT} > {EVENT}", line)
        if one and not messages and all(name < one[0] for name, _, _ in machines):
            signs = one[1].replace("-", "")
            machines.append((one[0], len(signs), tuple(k for k, sign in enumerate(signs) if sign == "#")))
        elif two:
            message = tuple(pairs_of(two))
            every = all_events((machines, ()))
            if not all(event in every for event in message) or message[0][0] == message[1][0]:
                return at
            if any(message <= other for other in messages) or is_ring(machines, messages + [message]):
                return at
            messages.append(message)
        else:
            return at
    return tuple(machines), tuple(messages)


def is_right_row(log, row):
    pairs = ahead_pairs(log)
    return set(row) <= set(marked_events(log)) and all(pair in pairs for pair in zip(row, row[1:]))


def right_counters(log, text):
    """The COUNTERS of the LOG with this text, or the number of the first part that is wrong."""
    if text == "none":
        return ()
    rows = []
    for at, part in enumerate(text.split(" | ")):
        words = [words_of(EVENT, piece) for piece in part.split(", ")]
        row = () if part == "-" else None if None in words else tuple(pairs_of([w for two in words for w in two]))
        if row is None or not is_right_row(log, row) or any(set(row) & set(other) for other in rows):
            return at
        rows.append(row)
    return tuple(rows)


FORMS = (
    ("ahead", EVENT + " " + EVENT), ("past", EVENT), ("stamp", EVENT), ("tells", EVENT + " " + EVENT), ("width", None),
    ("best", None), ("event", f"({NAME})"), ("mark", f"({NAME}) ({NUMBER}|-)"), ("message", EVENT + " " + EVENT),
)


def right_request(line):
    """The word of a request and its further words, or None."""
    if line.startswith("counters "):
        return "counters", (line[len("counters "):],)
    for word, form in FORMS:
        found = words_of(word if form is None else word + " " + form, line)
        if found is not None:
            return word, found
    return None


def right_width(log):
    return max(len(cut) for cut in all_cuts(*renamed_order(log)))


def with_one(log, one, other):
    return log[0], tuple(sorted(set(log[1]) | {(one, other)}))


def row_words(events):
    return ", ".join(f"{name} {number}" for name, number in events) or "-"


def right_best(log):
    pairs, wide, best = ahead_pairs(log), right_width(log), None
    for one in all_events(log):
        for other in all_events(log):
            if one[0] != other[0] and (other, one) not in pairs:
                many = wide - right_width(with_one(log, one, other))
                if many > 0 and (best is None or (-many, one, other) < best):
                    best = (-many, one, other)
    return "-" if best is None else f"{row_words(best[1:2])} > {row_words(best[2:])}"


class Refused(Exception):
    pass


class RightDesk:
    """A desk that goes by the document alone."""

    def __init__(self, log, counters):
        self.log, self.counters = log, counters

    def answer(self, word, words):
        try:
            return getattr(self, word)(*words)
        except Refused as refused:
            return f"refused {refused}"

    def events(self, words, every=None):
        found = pairs_of(words)
        for event in found:
            if event not in (all_events(self.log) if every is None else every):
                raise Refused("NoEvent")
        return found

    def ahead(self, *words):
        one, other = self.events(words)
        return "yes" if (one, other) in ahead_pairs(self.log) else "no"

    def past(self, *words):
        event = self.events(words)[0]
        return row_words(sorted(known_at(self.log, event) - {event}))

    def stamp(self, *words):
        return " ".join(map(str, right_stamp(self.log, self.counters, self.events(words)[0]))) or "-"

    def tells(self, *words):
        one, other = self.events(words, marked_events(self.log))
        stamps = {event: right_stamp(self.log, self.counters, event) for event in (one, other)}
        places = {event: at for at, row in enumerate(self.counters) for event in row}
        if one == other:
            return "not"
        if one in places:
            return "ahead" if stamps[one][places[one]] <= stamps[other][places[one]] else "not"
        if other in places and stamps[other][places[other]] <= stamps[one][places[other]]:
            return "not"
        return "open" if all(k <= far for k, far in zip(stamps[one], stamps[other])) else "not"

    def width(self):
        return str(right_width(self.log))

    def best(self):
        return right_best(self.log)

    def grown(self, name, is_marked):
        sizes = {one: many for one, many, _ in self.log[0]}
        if name not in sizes:
            raise Refused("NoMachine")
        number = sizes[name]
        return (tuple(
            (one, many + 1, marks + ((number,) if is_marked else ())) if one == name else (one, many, marks)
            for one, many, marks in self.log[0]
        ), self.log[1]), (name, number)

    def event(self, name):
        self.log = self.grown(name, False)[0]
        return "done"

    def mark(self, name, word):
        log, event = self.grown(name, True)
        rows = list(self.counters)
        if word != "-":
            counter = int(word)
            if counter > len(rows):
                raise Refused("NoCounter")
            rows += [()] if counter == len(rows) else []
            if rows[counter] and (rows[counter][-1], event) not in ahead_pairs(log):
                raise Refused("NotBehind")
            rows[counter] += (event,)
        self.log, self.counters = log, tuple(rows)
        return "done"

    def message(self, *words):
        one, other = self.events(words)
        if one[0] == other[0] or (other, one) in ahead_pairs(self.log):
            raise Refused("Backwards")
        self.log = with_one(self.log, one, other)
        return "done"

    def counters_text(self, text):
        found = right_counters(self.log, text)
        if isinstance(found, int):
            raise Refused("BadRow")
        self.counters = found
        return "done"


def right_answers(text):
    """The list of the answers, or the number of the line of which BadLine tells."""
    lines = text.split("\n")
    at = lines.index("") if "" in lines else len(lines)
    log = right_log("\n".join(lines[:at]))
    if isinstance(log, int):
        return log
    if len(lines) < at + 2:
        return len(lines)
    counters = right_counters(log, lines[at + 1])
    if isinstance(counters, int):
        return at + 1
    for number, line in enumerate(lines):
        if number > at + 1 and right_request(line) is None:
            return number
    desk = RightDesk(log, counters)
    requests = [right_request(line) for line in lines[at + 2:]]
    return [desk.answer("counters_text" if word == "counters" else word, words) for word, words in requests]
