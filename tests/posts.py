"""What messages must carry, straight as the document says it, without the package."""

import itertools
import random

from tests.helpers import ahead_pairs, all_events, marked_events


def known_at(log, event):
    """The EVENTs that are this one or ahead of it."""
    return {one for one, other in ahead_pairs(log) if other == event} | {event}


def right_stamp(log, counters, event):
    known = known_at(log, event)
    return tuple(len(known & set(row)) for row in counters)


def right_crossings(log):
    return sorted(
        (one, other) for one, other in itertools.product(log[1], repeat=2)
        if one[0][0] == other[0][0] and one[1][0] == other[1][0]
        and one[0][1] < other[0][1] and one[1][1] > other[1][1]
    )


def sends_of(log, event):
    """How many messages the EVENT sends to each MACHINE, without those to which it sends none."""
    names = [come[0] for sent, come in log[1] if sent == event]
    return {name: names.count(name) for name in names}


def right_alike(log, other, event):
    if event not in all_events(other):
        return False
    known = known_at(log, event)
    return (
        known == known_at(other, event)
        and known & set(marked_events(log)) == known & set(marked_events(other))
        and {one for one in log[1] if one[1] in known} == {one for one in other[1] if one[1] in known}
        and all(sends_of(log, one) == sends_of(other, one) for one in known)
    )


def without(log, message):
    return log[0], tuple(one for one in log[1] if one != message)


def sent_first(log, message):
    """How many messages of the same EVENT come to earlier EVENTs of the same MACHINE."""
    sent, come = message
    return sum(one[0] == sent and one[1][0] == come[0] and one[1][1] < come[1] for one in log[1])


def right_witness(log, counters, message, counter, in_order, world, told):
    """Whether (world, told), a LOG and a pair, is a WITNESS for the ENTRY of this counter."""
    sent, come = message
    if told not in world[1] or told[0] != sent or told[1][0] != come[0] or not right_alike(log, world, sent):
        return False
    if in_order and (right_crossings(world) or sent_first(world, told) != sent_first(log, message)):
        return False
    row = tuple(event for event in counters[counter] if event in known_at(log, sent))
    with_it = right_stamp(world, (row,), told[1])
    return right_stamp(without(world, told), (row,), told[1]) < with_it


def worlds(log, sent):
    """LOGs alike up to the EVENT: all ways in which what was sent up to it can come to further EVENTs."""
    known = known_at(log, sent)
    sizes = {name: sum(event[0] == name for event in known) for name, _, _ in log[0]}
    inside = [one for one in log[1] if one[1] in known]
    left = [one for one in log[1] if one[0] in known and one[1] not in known]
    names = [come[0] for _, come in left]
    for places in itertools.product(*[range(names.count(name)) for name in names]):
        found = {(one[0], (name, sizes[name] + at)) for one, name, at in zip(left, names, places)}
        if len(found) == len(left):
            machines = tuple(
                (name, sizes[name] + names.count(name), tuple(k for k in marks if k < sizes[name]))
                for name, _, marks in log[0]
            )
            yield machines, tuple(sorted(inside + sorted(found)))


def right_entries(log, counters, message, in_order):
    """The ENTRYs for which one of these worlds has a WITNESS."""
    sent, come = message
    stamp = right_stamp(log, counters, sent)
    found = set()
    for world in worlds(log, sent):
        for told in world[1]:
            for counter in range(len(counters)):
                if counter not in found and right_witness(log, counters, message, counter, in_order, world, told):
                    found.add(counter)
    return tuple((counter, stamp[counter]) for counter in sorted(found))


def ordered(log):
    """The LOG with the messages between each two MACHINEs put in order: those that cross are left out."""
    while right_crossings(log):
        log = without(log, right_crossings(log)[0][0])
    return log


def busy_log(rng, names="abc", steps=9, most=9):
    """A LOG with many messages for its EVENTs: at each step a MACHINE does one, to which messages may come."""
    done, marks, messages = [], {name: [] for name in names}, []
    for _ in range(steps):
        event = (rng.choice(names), 0)
        event = (event[0], sum(one[0] == event[0] for one in done))
        for sent in rng.sample(done, min(len(done), rng.randint(0, 2))):
            if sent[0] != event[0] and len(messages) < most:
                messages.append((sent, event))
        done.append(event)
        if rng.random() < 0.7:
            marks[event[0]].append(event[1])
    machines = tuple((name, sum(one[0] == name for one in done), tuple(marks[name])) for name in names)
    return machines, tuple(sorted(messages))


def busy_logs(seed, many, **how):
    rng = random.Random(seed)
    return [busy_log(rng, **how) for _ in range(many)]
