"""What messages must carry, so that each MACHINE has the STAMPs of its EVENTs."""

from fewstamps.data import events, is_event, is_log, linked, marked, past, sizes_of, steps_to, there
from fewstamps.errors import NoMachine, NoMessage, OutOfOrder
from fewstamps.forms import is_tuple_of, looks_like_event, tupled
from fewstamps.stamps import stamp


def names_of(message):
    """The names of the MACHINEs from which the message is sent, and to which it comes."""
    return message[0][0], message[1][0]


def crosses(one, other):
    """Whether the one message, between the same MACHINEs as the other, was sent earlier but came later."""
    return names_of(one) == names_of(other) and one[0][1] < other[0][1] and one[1][1] > other[1][1]


def crossings(log):
    """The ascending list of the pairs of messages (one, other) that are not in order."""
    messages = tupled(log)[1]
    return [(one, other) for one in messages for other in messages if crosses(one, other)]


def is_in_order(log):
    """Whether the messages from each MACHINE to each other one come in the order in which they were sent."""
    return not crossings(log)


def need_order(log, in_order):
    """Raises OutOfOrder if the LOG is to be in order and is not."""
    found = crossings(log) if in_order else []
    if found:
        one, other = found[0]
        raise OutOfOrder(one, other)


def message_of(log, message, in_order):
    """The message as a tuple; raises NoMessage, then OutOfOrder."""
    message = tupled(message)
    if message not in tupled(log)[1]:
        raise NoMessage(message)
    need_order(log, in_order)
    return message


def earlier_ones(log, message):
    """The messages of the LOG from the same MACHINE to the same one that were sent earlier.

    Of two that one EVENT sends the one that comes earlier is the earlier one.
    """
    return [one for one in tupled(log)[1] if names_of(one) == names_of(message) and one < message]


def reach(messages, event):
    """By the names of MACHINEs, the highest number of those of their EVENTs that are this one or ahead of it.

    Only EVENTs with messages are looked at: a LOG that is asked about may have any number of others.
    """
    found = sorted(set([event] + [end for message in messages for end in message]))
    highest = {}
    for name, number in steps_to(linked(found, messages), event):
        highest[name] = max(number, highest.get(name, number))
    return highest


def is_within(highest, event):
    """Whether the EVENT is one of those that reach up to these numbers."""
    return event[0] in highest and event[1] <= highest[event[0]]


def story(log, event):
    """What LOGs that are alike up to this EVENT have in common."""
    log = tupled(log)
    highest = reach(log[1], event)
    marks = [one for one in marked(log) if is_within(highest, one)]
    came = [message for message in log[1] if is_within(highest, message[1])]
    sends = [(sent, come[0]) for sent, come in log[1] if is_within(highest, sent)]
    return highest, marks, came, sends


def alike(log, other, event):
    """Whether the other LOG is alike up to this EVENT of the LOG; raises NoEvent."""
    event = there(log, event)
    return is_event(sizes_of(other[0]), event) and story(log, event) == story(other, event)


def noughts(counters):
    """The STAMP of no EVENT."""
    return (0,) * len(counters)


def greatest(counters, stamps):
    """The greatest numbers of these STAMPs; noughts if there are none."""
    least = noughts(counters)
    return tuple([max(numbers) for numbers in zip(least, *stamps)])


def above(numbers, others):
    """The ascending tuple of the ENTRYs of the one STAMP that have greater numbers than the other."""
    return tuple([(at, number) for at, (number, other) in enumerate(zip(numbers, others)) if number > other])


def stamps_of(log, counters, chosen):
    """The STAMPs of the chosen EVENTs."""
    return [stamp(log, counters, event) for event in chosen]


def known_of(log, counters, event, name):
    """What the MACHINE with this name has surely, as is known at the EVENT; raises NoEvent, then NoMachine."""
    event = there(log, event)
    if name not in sizes_of(log[0]):
        raise NoMachine(name)
    known = [one for one in past(log, event) + [event] if one[0] == name]
    return greatest(counters, stamps_of(log, counters, known[-1:]))


def surely(log, counters, sent, name, senders):
    """What the MACHINE with this name has surely, by what is ahead of sent, and by messages of these senders."""
    return greatest(counters, [known_of(log, counters, sent, name)] + stamps_of(log, counters, senders))


def has_surely(log, counters, message, in_order=False):
    """What the MACHINE to which the message comes has surely, for each counter; raises NoMessage, then OutOfOrder."""
    message = message_of(log, message, in_order)
    senders = [one[0] for one in earlier_ones(log, message)] if in_order else []
    return surely(log, counters, message[0], message[1][0], senders)


def must_carry(log, counters, message, in_order=False):
    """The ascending tuple of the ENTRYs that the message must carry; raises NoMessage, then OutOfOrder."""
    known = has_surely(log, counters, message, in_order)
    return above(stamp(log, counters, message[0]), known)


def soonest(log, message, in_order):
    """A LOG alike up to the EVENT that sends the message, and this, as it comes there as soon as it can."""
    sent, (name, _) = message
    highest = reach(log[1], sent)
    sizes = {machine[0]: highest.get(machine[0], -1) + 1 for machine in log[0]}
    marks = [tuple([mark for mark in machine[2] if mark < sizes[machine[0]]]) for machine in log[0]]
    messages = [one for one in log[1] if is_within(highest, one[1])]
    left = [one for one in log[1] if is_within(highest, one[0]) and one not in messages + [message]]
    earlier = earlier_ones(log, message) if in_order else []
    first = [one for one in left if one in earlier]
    told = (sent, (name, sizes[name] + len(first)))
    # Each comes to an EVENT of its own, those of one MACHINE in the order in which they were sent.
    queue = first + [message] + [one for one in left if one not in earlier]
    for one, (goal, _) in queue:
        messages.append((one, (goal, sizes[goal])))
        sizes[goal] += 1
    machines = tuple([(machine[0], sizes[machine[0]], numbers) for machine, numbers in zip(log[0], marks)])
    return (machines, tuple(sorted(messages))), told


def witness(log, counters, message, counter, in_order=False):
    """A WITNESS that the message must carry the ENTRY of this counter; None if it need not.

    Raises NoMessage, then OutOfOrder.
    """
    message = message_of(log, message, in_order)
    if counter not in [entry[0] for entry in must_carry(log, counters, message, in_order)]:
        return None
    return soonest(tupled(log), message, in_order)


def comes_ahead(log, message):
    """How many messages of the same EVENT come to earlier EVENTs of the same MACHINE."""
    return len([one for one in earlier_ones(log, message) if one[0] == message[0]])


def is_witness(log, counters, message, counter, in_order, thing):
    """Whether thing is a WITNESS for the ENTRY of this counter; raises NoMessage, then OutOfOrder."""
    message = message_of(log, message, in_order)
    if not is_tuple_of(thing, 2) or not is_log(thing[0]) or not is_tuple_of(thing[1], 2):
        return False
    other, told = thing
    if not all([looks_like_event(end) for end in told]) or told not in other[1]:
        return False
    if told[0] != message[0] or told[1][0] != message[1][0] or not alike(log, other, message[0]):
        return False
    if in_order and (not is_in_order(other) or comes_ahead(other, told) != comes_ahead(log, message)):
        return False
    known = reach(other[1], told[0])
    row = [event for event in tupled(counters)[counter] if is_within(known, event)]
    without = reach([one for one in other[1] if one != told], told[1])
    return not all([is_within(without, event) for event in row])


def just_ahead(log, counters, event):
    """The STAMP of the EVENT just ahead on the same MACHINE; noughts if there is none."""
    name, number = event
    return stamp(log, counters, (name, number - 1)) if number > 0 else noughts(counters)


def news(log, counters, event):
    """The ascending tuple of the ENTRYs that messages bring anew to the EVENT; raises NoEvent."""
    event = there(log, event)
    senders = [sent for sent, come in tupled(log)[1] if come == event]
    return above(greatest(counters, stamps_of(log, counters, senders)), just_ahead(log, counters, event))


def late(log, counters, message, in_order=False):
    """The ascending tuple of the ENTRYs that the message must carry, but that are no news, or come twice.

    Raises NoMessage, then OutOfOrder.
    """
    message = message_of(log, message, in_order)
    fresh = news(log, counters, message[1])
    senders = [sent for sent, come in tupled(log)[1] if come == message[1] and sent < message[0]]
    told = [entry for numbers in stamps_of(log, counters, senders) for entry in enumerate(numbers)]
    carried = must_carry(log, counters, message, in_order)
    return tuple([entry for entry in carried if entry not in fresh or entry in told])


def count_entries(counters, entries):
    """For each counter how many of the ENTRYs are of it."""
    return [len([entry for entry in entries if entry[0] == counter]) for counter in range(len(counters))]


def totals(log, counters, in_order=False):
    """For each counter a pair: how many ENTRYs of it all messages must carry, how often it is new at an EVENT.

    Raises OutOfOrder.
    """
    carried = [entry for message in tupled(log)[1] for entry in must_carry(log, counters, message, in_order)]
    fresh = [entry for event in events(log) for entry in news(log, counters, event)]
    return list(zip(count_entries(counters, carried), count_entries(counters, fresh)))


def by_last(log, counters, message):
    """The ascending tuple of the ENTRYs that are greater than at the last EVENT that sent to the same MACHINE.

    Raises NoMessage.
    """
    message = message_of(log, message, False)
    # The STAMPs of one MACHINE's EVENTs never fall: so the greatest numbers are those of the last one.
    senders = [one[0] for one in earlier_ones(log, message)]
    return above(stamp(log, counters, message[0]), greatest(counters, stamps_of(log, counters, senders)))


def by_machines(log):
    """COUNTERS: for each MACHINE that has marked EVENTs the ROW of these, by ascending names."""
    return tuple([tuple([(name, mark) for mark in marks]) for name, _, marks in log[0] if marks])
