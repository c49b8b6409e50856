"""Counters that go along ROWs, and the STAMPs that they give."""

from fewstamps.data import aheads_of, marked, there
from fewstamps.forms import is_ascending, looks_like_event, tupled


def marked_aheads(log):
    """For each marked EVENT a dict with all that are ahead of it as its keys."""
    aheads = aheads_of(log)
    return {event: aheads[event] for event in marked(log)}


def are_marked(aheads, thing):
    """Whether thing is a tuple of marked EVENTs."""
    if not isinstance(thing, tuple):
        return False
    return all([looks_like_event(part) and part in aheads for part in thing])


def is_row_by(aheads, thing):
    """Whether thing is a ROW, by what is ahead of each marked EVENT."""
    if not are_marked(aheads, thing):
        return False
    return all([thing[at] in aheads[thing[at + 1]] for at in range(len(thing) - 1)])


def is_row(log, thing):
    """Whether thing is a ROW of the LOG."""
    return is_row_by(marked_aheads(log), thing)


def is_cut_by(aheads, thing):
    """Whether thing is a CUT, by what is ahead of each marked EVENT."""
    if not are_marked(aheads, thing) or not is_ascending(thing):
        return False
    return not any([one in aheads[other] for one in thing for other in thing])


def is_cut(log, thing):
    """Whether thing is a CUT of the LOG."""
    return is_cut_by(marked_aheads(log), thing)


def are_apart(parts):
    """Whether these ROWs or CUTs have no common EVENT."""
    found = [event for part in parts for event in part]
    return len(set(found)) == len(found)


def are_counters_by(aheads, thing):
    """Whether thing is COUNTERS, by what is ahead of each marked EVENT."""
    return isinstance(thing, tuple) and all([is_row_by(aheads, row) for row in thing]) and are_apart(thing)


def are_cuts_by(aheads, thing):
    """Whether thing is a tuple of CUTs without a common EVENT, by what is ahead of each marked EVENT."""
    return isinstance(thing, tuple) and all([is_cut_by(aheads, cut) for cut in thing]) and are_apart(thing)


def are_counters(log, thing):
    """Whether thing is COUNTERS of the LOG."""
    return are_counters_by(marked_aheads(log), thing)


def counted(counters):
    """The ascending list of the EVENTs that are counted."""
    return sorted([event for row in tupled(counters) for event in row])


def place(counters, event):
    """The index of the EVENT's ROW, and how many EVENTs of this are up to it; None if it is not counted."""
    event = tupled(event)
    for counter, row in enumerate(tupled(counters)):
        if event in row:
            return counter, row.index(event) + 1
    return None


def stamp_by(ahead, counters, event):
    """The STAMP of the EVENT, by what is ahead of it."""
    return tuple([len([one for one in row if one == event or one in ahead]) for row in counters])


def stamp(log, counters, event):
    """The STAMP of the EVENT, marked or not; raises NoEvent."""
    event = there(log, event)
    return stamp_by(aheads_of(log)[event], tupled(counters), event)


def stamps(log, counters):
    """The ascending list of pairs of each marked EVENT and its STAMP."""
    counters = tupled(counters)
    aheads = aheads_of(log)
    return [(event, stamp_by(aheads[event], counters, event)) for event in marked(log)]


def handed(counters):
    """The ascending list of (counter, one, other) where a counter goes over to another MACHINE."""
    found = []
    for counter, row in enumerate(tupled(counters)):
        for one, other in zip(row, row[1:]):
            if one[0] != other[0]:
                found.append((counter, one, other))
    return sorted(found)
