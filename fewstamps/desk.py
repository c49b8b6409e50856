"""A desk: a LOG and COUNTERS as a text, with requests that ask of them or change them."""

from fewstamps.data import is_ahead, past, sizes_of
from fewstamps.errors import Backwards, BadLine, BadRow, NoCounter, NoEvent, NoMachine, NotBehind
from fewstamps.forms import is_name
from fewstamps.more import best_message, width, with_message
from fewstamps.stamps import stamp
from fewstamps.texts import counters_in, event_in, log_in, message_text, number_in, row_text, stamp_text
from fewstamps.told import tells_now

NOT_COUNTED = "-"

# What stands behind the word of a request: an EVENT (E), a NAME (N), a COUNTER (C); and of how many words that is.
FORMS = {
    "ahead": "EE", "past": "E", "stamp": "E", "tells": "EE", "width": "", "best": "",
    "event": "N", "mark": "NC", "message": "EE",
}
WORDS = {"E": 2, "N": 1, "C": 1}


def value_in(form, words):
    """The value of this form with these words; None if they are those of none."""
    if form == "E":
        return event_in(words)
    word = words[0]
    if form == "N":
        return word if is_name(word) else None
    return word if word == NOT_COUNTED else number_in(word)


def values_in(forms, words):
    """The values of these forms with these words; None if they are those of none."""
    if len(words) != sum([WORDS[form] for form in forms]):
        return None
    found = []
    at = 0
    for form in forms:
        found.append(value_in(form, words[at:at + WORDS[form]]))
        at += WORDS[form]
    return None if None in found else found


def request_in(line):
    """The word and the values of the request with this text; None if it is that of none."""
    word, blank, text = line.partition(" ")
    if word == "counters" and blank:
        return word, [text]
    values = values_in(FORMS[word], line.split(" ")[1:]) if word in FORMS else None
    return None if values is None else (word, values)


def ahead_told(log, counters, one, other):
    """Whether the one EVENT is ahead of the other; raises NoEvent."""
    return "yes" if is_ahead(log, one, other) else "no"


def past_told(log, counters, event):
    """The EVENTs ahead of this one; raises NoEvent."""
    return row_text(past(log, event))


def stamp_told(log, counters, event):
    """The STAMP of the EVENT; raises NoEvent."""
    return stamp_text(stamp(log, counters, event))


def pair_told(log, counters, one, other):
    """What the SHEET tells of the pair; raises NoEvent."""
    return tells_now(log, counters, one, other)


def width_told(log, counters):
    """The width of the LOG."""
    return str(width(log))


def best_told(log, counters):
    """The message that saves the most."""
    found = best_message(log)
    return "-" if found is None else message_text(found)


QUERIES = {
    "ahead": ahead_told, "past": past_told, "stamp": stamp_told, "tells": pair_told, "width": width_told,
    "best": best_told,
}


def one_more(log, name, is_marked):
    """The LOG with one EVENT more of this MACHINE, and this EVENT; raises NoMachine."""
    machines, messages = log
    sizes = sizes_of(machines)
    if name not in sizes:
        raise NoMachine(name)
    number = sizes[name]
    further = (number,) if is_marked else ()
    grown = [(one, many + 1, marks + further) if one == name else (one, many, marks) for one, many, marks in machines]
    return (tuple(grown), messages), (name, number)


def counted_by(log, counters, counter, event):
    """The COUNTERS with this EVENT behind the last one of the counter; raises NoCounter, then NotBehind."""
    if counter > len(counters):
        raise NoCounter(counter)
    row = counters[counter] if counter < len(counters) else ()
    if row and not is_ahead(log, row[-1], event):
        raise NotBehind(counter)
    return counters[:counter] + (row + (event,),) + counters[counter + 1:]


def with_event(log, counters, name):
    """The LOG and COUNTERS with one EVENT more, not marked; raises NoMachine."""
    return one_more(log, name, False)[0], counters


def with_mark(log, counters, name, counter):
    """The LOG and COUNTERS with one EVENT more, marked; raises NoMachine, NoCounter, NotBehind."""
    log, event = one_more(log, name, True)
    if counter != NOT_COUNTED:
        counters = counted_by(log, counters, counter, event)
    return log, counters


def with_further(log, counters, one, other):
    """The LOG and COUNTERS with one message more; raises NoEvent, then Backwards."""
    return with_message(log, one, other), counters


def with_counters(log, counters, text):
    """The LOG and the COUNTERS with this text; raises BadRow."""
    return log, counters_in(log, text)


CHANGES = {"event": with_event, "mark": with_mark, "message": with_further, "counters": with_counters}


def answer_to(log, counters, word, values):
    """The answer to a request, and the LOG and COUNTERS from then on; raises what the request raises."""
    if word in QUERIES:
        told = QUERIES[word]
        return told(log, counters, *values), log, counters
    change = CHANGES[word]
    log, counters = change(log, counters, *values)
    return "done", log, counters


def answer_or_refusal(log, counters, word, values):
    """The answer to a request, be it that it is refused, and the LOG and COUNTERS from then on."""
    try:
        return answer_to(log, counters, word, values)
    except NoEvent:
        why = "NoEvent"
    except NoMachine:
        why = "NoMachine"
    except NoCounter:
        why = "NoCounter"
    except NotBehind:
        why = "NotBehind"
    except Backwards:
        why = "Backwards"
    except BadRow:
        why = "BadRow"
    return "refused " + why, log, counters


def counters_on(log, line, number):
    """The COUNTERS with the text of this line; raises BadLine with its number."""
    try:
        return counters_in(log, line)
    except BadRow:
        raise BadLine(number)


def request_on(line, number):
    """The word and the values of the request on this line; raises BadLine with its number."""
    request = request_in(line)
    if request is None:
        raise BadLine(number)
    return request


def answers(text):
    """The list of the answers to the requests of the text; raises BadLine."""
    lines = text.split("\n")
    parting = lines.index("") if "" in lines else len(lines)
    log = log_in("\n".join(lines[:parting]))
    first = parting + 2
    if len(lines) < first:
        raise BadLine(len(lines))
    counters = counters_on(log, lines[parting + 1], parting + 1)
    requests = [request_on(lines[number], number) for number in range(first, len(lines))]
    found = []
    for word, values in requests:
        answer, log, counters = answer_or_refusal(log, counters, word, values)
        found.append(answer)
    return found
