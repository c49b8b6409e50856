"""LOGs, COUNTERS and STAMPs as texts."""

from fewstamps.data import has_ring, is_message, sizes_of
from fewstamps.errors import BadLine, BadRow
from fewstamps.forms import is_name
from fewstamps.stamps import are_apart, is_row_by, marked_aheads

LONGEST_NUMBER = 2


def number_in(word):
    """The number with this text; None if it is that of none."""
    # Signs are compared: isdigit and int also take digits beyond 0 to 9.
    if not 1 <= len(word) <= LONGEST_NUMBER or not all(["0" <= sign <= "9" for sign in word]):
        return None
    if len(word) > 1 and word[0] == "0":
        return None
    return int(word)


def event_in(words):
    """The EVENT whose text has these words; None if it is that of none."""
    if len(words) != 2 or not is_name(words[0]) or number_in(words[1]) is None:
        return None
    return words[0], number_in(words[1])


def event_text(event):
    """The text of an EVENT."""
    name, number = event
    return f"{name} {number}"


def message_in(line):
    """The message with this text; None if it is that of none."""
    words = line.split(" ")
    sent = event_in(words[:2])
    come = event_in(words[3:])
    if sent is None or come is None or words[2] != ">":
        return None
    return sent, come


def message_text(message):
    """The text of a message."""
    sent, come = message
    return event_text(sent) + " > " + event_text(come)


def machine_in(line):
    """The MACHINE with this text; None if it is that of none."""
    words = line.split(" ")
    if len(words) != 2 or not is_name(words[0]):
        return None
    name, signs = words
    if signs == "-":
        return name, 0, ()
    if signs == "" or not all([sign == "#" or sign == "." for sign in signs]):
        return None
    return name, len(signs), tuple([at for at, sign in enumerate(signs) if sign == "#"])


def machine_text(machine):
    """The text of a MACHINE."""
    name, many, marks = machine
    signs = "".join(["#" if number in marks else "." for number in range(many)])
    return name + " " + (signs or "-")


def log_text(log):
    """The text of a LOG."""
    machines, messages = log
    return "\n".join([machine_text(machine) for machine in machines] + [message_text(message) for message in messages])


def may_follow(machines, messages, message):
    """Whether the message can stand behind these MACHINEs and messages."""
    if not is_message(sizes_of(machines), message) or (messages and message <= messages[-1]):
        return False
    return not has_ring(messages + [message])


def log_in(text):
    """The LOG with this text; raises BadLine."""
    machines = []
    messages = []
    lines = text.split("\n") if text else []
    for number, line in enumerate(lines):
        machine = machine_in(line)
        message = message_in(line)
        if machine is not None and not messages and (not machines or machines[-1][0] < machine[0]):
            machines.append(machine)
        elif message is not None and may_follow(machines, messages, message):
            messages.append(message)
        else:
            raise BadLine(number)
    return tuple(machines), tuple(messages)


def row_in(part):
    """The tuple of EVENTs with this text; None if it is that of none."""
    if part == "-":
        return ()
    found = [event_in(text.split(" ")) for text in part.split(", ")]
    return None if None in found else tuple(found)


def row_text(row):
    """The text of EVENTs, as those of a ROW."""
    return ", ".join([event_text(event) for event in row]) if row else "-"


def counters_text(counters):
    """The text of COUNTERS."""
    return " | ".join([row_text(row) for row in counters]) if counters else "none"


def counters_in(log, text):
    """The COUNTERS of the LOG with this text; raises BadRow."""
    if text == "none":
        return ()
    aheads = marked_aheads(log)
    rows = []
    for number, part in enumerate(text.split(" | ")):
        row = row_in(part)
        if row is None or not is_row_by(aheads, row) or not are_apart(rows + [row]):
            raise BadRow(number)
        rows.append(row)
    return tuple(rows)


def stamp_text(stamp):
    """The text of a STAMP."""
    return " ".join([str(number) for number in stamp]) if stamp else "-"
