"""What a message more saves, and what one less costs."""

from fewstamps.data import aheads_of, events, marked, there
from fewstamps.errors import Backwards, NoMessage
from fewstamps.forms import tupled
from fewstamps.shape import behinds_among, behinds_of, cover_of, widest_of


def width(log):
    """How many EVENTs the widest CUT has: so many ROWs, and no fewer, can count all marked EVENTs."""
    return len(cover_of(behinds_of(log)))


def goes(aheads, one, other):
    """Whether a message from one to other fits."""
    return one[0] != other[0] and other not in aheads[one]


def fitting_ends(log, one, other):
    """The EVENTs as tuples; raises NoEvent, then Backwards if a message from one to other does not fit."""
    one = there(log, one)
    other = there(log, other)
    if not goes(aheads_of(log), one, other):
        raise Backwards(one, other)
    return one, other


def with_message(log, one, other):
    """The LOG with a message from one to other, too; raises NoEvent, then Backwards."""
    machines, messages = tupled(log)
    message = fitting_ends(log, one, other)
    if message in messages:
        return machines, messages
    return machines, tuple(sorted(messages + (message,)))


def without_message(log, message):
    """The LOG without the message; raises NoMessage."""
    machines, messages = tupled(log)
    message = tupled(message)
    if message not in messages:
        raise NoMessage(message)
    return machines, tuple([other for other in messages if other != message])


def widest_with(log, one, other):
    """Of the widest CUTs of the LOG with this message the least one; raises NoEvent, then Backwards."""
    log = with_message(log, one, other)
    names = marked(log)
    return tuple([names[part] for part in widest_of(behinds_of(log))])


def width_among(aheads, chosen):
    """How many of the chosen EVENTs are beside each other at the most."""
    return len(cover_of(behinds_among(aheads, chosen)))


def side_before(aheads, every, one):
    """How many EVENTs a CUT has at most that has none of one and all ahead of it; every are the marked ones."""
    return width_among(aheads, [event for event in every if event != one and event not in aheads[one]])


def side_behind(aheads, every, other):
    """How many EVENTs a CUT has at most that has none of other and all behind it; every are the marked ones."""
    return width_among(aheads, [event for event in every if event != other and other not in aheads[event]])


def sides(log, one, other):
    """How many EVENTs a CUT has at most without one and all ahead of it; without other and all behind it.

    Raises NoEvent, then Backwards.
    """
    one, other = fitting_ends(log, one, other)
    aheads = aheads_of(log)
    every = marked(log)
    return side_before(aheads, every, one), side_behind(aheads, every, other)


def saving(log):
    """The ascending list of (one, other, many) for the messages that fit and by which the width is less."""
    aheads = aheads_of(log)
    ends = events(log)
    every = marked(log)
    befores = {event: side_before(aheads, every, event) for event in ends}
    behinds = {event: side_behind(aheads, every, event) for event in ends}
    wide = width(log)
    found = []
    for one in ends:
        for other in ends:
            many = wide - max(befores[one], behinds[other])
            if many > 0 and goes(aheads, one, other):
                found.append((one, other, many))
    return found


def best_message(log):
    """Of the messages that save the most the least one, as a pair; None if none saves any."""
    found = saving(log)
    if not found:
        return None
    most = max([many for _, _, many in found])
    return min([(one, other) for one, other, many in found if many == most])


def needless(log):
    """The ascending list of the messages without which the same EVENTs are ahead of one another."""
    aheads = aheads_of(log)
    # Without a message that is needed the one EVENT is not ahead of the other; else nothing changes.
    return [message for message in tupled(log)[1] if message[0] in aheads_of(without_message(log, message))[message[1]]]


def costs(log):
    """The ascending list of (message, many): by how many the width is greater without it."""
    wide = width(log)
    return [(message, width(without_message(log, message)) - wide) for message in tupled(log)[1]]
