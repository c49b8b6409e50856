"""LOGs that grow: how counters go on, which of them to keep, and a rule for the running log."""

from fewstamps.data import aheads_of, marked, marked_coming
from fewstamps.forms import is_ascending, is_number, is_tuple_of, tupled
from fewstamps.shape import arcs_of, behinds_among, cover_of, cuts_by, farthest, weave, widest_of
from fewstamps.stamps import are_counters, are_cuts_by, is_cut_by, marked_aheads


def sizes_at(log, stand):
    """How many EVENTs of each MACHINE are elder ones, by names."""
    return {machine[0]: many for machine, many in zip(log[0], stand)}


def is_new(sizes, event):
    """Whether the EVENT is a new one, the MACHINEs having so many elder ones."""
    return event[1] >= sizes[event[0]]


def is_stand(log, thing):
    """Whether thing is a STAND of the LOG."""
    machines, messages = tupled(log)
    if not is_tuple_of(thing, len(machines)) or not all([is_number(many) for many in thing]):
        return False
    if not all([0 <= many <= machine[1] for machine, many in zip(machines, thing)]):
        return False
    sizes = sizes_at(log, thing)
    return not any([is_new(sizes, sent) and not is_new(sizes, come) for sent, come in messages])


def elder_log(log, stand):
    """The LOG of the elder EVENTs and of the messages between them, with all MACHINEs."""
    machines, messages = tupled(log)
    sizes = sizes_at(log, stand)
    elder = []
    for name, _, marks in machines:
        elder.append((name, sizes[name], tuple([mark for mark in marks if mark < sizes[name]])))
    # A message that comes to an elder EVENT is sent by one.
    return tuple(elder), tuple([message for message in messages if not is_new(sizes, message[1])])


def new_marked(log, stand):
    """The ascending list of the marked new EVENTs."""
    sizes = sizes_at(log, stand)
    return [event for event in marked(log) if is_new(sizes, event)]


def go_on(log, stand, counters, thing):
    """Whether thing is COUNTERS that go on from counters."""
    counters = tupled(counters)
    if not are_counters(log, thing) or len(thing) < len(counters):
        return False
    if any([row[:len(elder)] != elder for elder, row in zip(counters, thing)]):
        return False
    begun = [len(elder) for elder in counters] + [0] * (len(thing) - len(counters))
    sizes = sizes_at(log, stand)
    return all([is_new(sizes, event) for many, row in zip(begun, thing) for event in row[many:]])


def is_behind(aheads, row, event):
    """Whether the new EVENT is open to the elder ROW."""
    return len(row) == 0 or row[-1] in aheads[event]


def behinds_on(aheads, counters, new):
    """For each elder ROW, then for each of the new EVENTs, the numbers of all parts behind it.

    The parts are woven as those of shape.py: first the elder ROWs, each one part, then the new EVENTs.
    """
    many = len(counters)
    elder = [[many + at for at, event in enumerate(new) if is_behind(aheads, row, event)] for row in counters]
    return elder + [[many + at for at in places] for places in behinds_among(aheads, new)]


def weave_by(log, stand, counters, weights, many):
    """So many rows, and their gains, if the elder ROWs weigh so much; and the arcs that then are left."""
    new = new_marked(log, stand)
    behinds = behinds_on(aheads_of(log), counters, new)
    every = weights + [1] * len(new)
    rows, grown = weave(every, behinds, many)
    return rows, grown, arcs_of(every, behinds, rows)


def weave_on(log, stand, counters, further):
    """The rows and gains of all elder ROWs and so many further ones, and the arcs that then are left."""
    # An elder ROW weighs more than all new EVENTs: so each one is at the head of a row of its own.
    weight = len(new_marked(log, stand)) + 1
    return weave_by(log, stand, counters, [weight] * len(counters), len(counters) + further)


def weave_kept(log, stand, counters, many):
    """The rows and gains of so many rows in all, and the arcs that then are left."""
    # Here an elder ROW weighs what it has, and one that is on no row is given up.
    return weave_by(log, stand, counters, [len(row) for row in counters], many)


def gains_on(log, stand, counters):
    """How many new EVENTs can be counted without a further ROW, and how many more with each further one."""
    counters = tupled(counters)
    many = len(counters)
    new = new_marked(log, stand)
    grown = weave_on(log, stand, counters, len(new))[1]
    return [sum(grown[:many]) - many * (len(new) + 1)] + [gain for gain in grown[many:] if gain > 0]


def going_on(log, stand, counters, many):
    """COUNTERS that go on, with so many further ROWs, and count as many new EVENTs as can be."""
    counters = tupled(counters)
    elders = len(counters)
    new = new_marked(log, stand)
    begun = list(counters)
    further = []
    for row in weave_on(log, stand, counters, many)[0]:
        names = tuple([new[part - elders] for part in row if part >= elders])
        if row and row[0] < elders:
            begun[row[0]] = begun[row[0]] + names
        else:
            further.append(names)
    return tuple(begun + further)


def is_bar(log, stand, counters, thing):
    """Whether thing is a BAR for the elder ROWs."""
    counters = tupled(counters)
    aheads = marked_aheads(log)
    if not is_tuple_of(thing, 2) or not are_cuts_by(aheads, thing[0]):
        return False
    cuts, heights = thing
    if not is_tuple_of(heights, len(counters)) or not all([is_number(height) for height in heights]):
        return False
    if not all([0 <= height <= len(cuts) for height in heights]):
        return False
    sizes = sizes_at(log, stand)
    if not all([is_new(sizes, event) for cut in cuts for event in cut]):
        return False
    lower = [(row, event) for row, height in zip(counters, heights) for cut in cuts[:height] for event in cut]
    return not any([is_behind(aheads, row, event) for row, event in lower])


def outside(log, stand, cuts):
    """How many marked new EVENTs are in none of the cuts."""
    return len(new_marked(log, stand)) - sum([len(cut) for cut in cuts])


def lets(log, stand, counters, bar, many):
    """How many new EVENTs COUNTERS that go on with so many further ROWs count at the most, by this BAR."""
    cuts, heights = bar
    return outside(log, stand, cuts) + many * len(cuts) + sum([len(cuts) - height for height in heights])


def bar_by(arcs, counters, new):
    """The BAR that the ways along these arcs tell."""
    most = farthest(arcs)[0]
    heights = tuple([most[2 * at + 1] for at in range(len(counters))])
    return cuts_by(most, len(counters), new), heights


def bar(log, stand, counters, many):
    """A BAR by which lets is just what going_on counts."""
    counters = tupled(counters)
    return bar_by(weave_on(log, stand, counters, many)[2], counters, new_marked(log, stand))


def fewest_on(log, stand, counters):
    """The least number of further ROWs with which COUNTERS that go on count all marked new EVENTs."""
    counters = tupled(counters)
    return len(cover_of(behinds_on(aheads_of(log), counters, new_marked(log, stand)))) - len(counters)


def barrier(log, stand, counters):
    """A BARRIER with as many EVENTs and indices as there are elder ROWs and fewest_on."""
    counters = tupled(counters)
    new = new_marked(log, stand)
    found = widest_of(behinds_on(aheads_of(log), counters, new))
    many = len(counters)
    return tuple([new[part - many] for part in found if part >= many]), tuple([part for part in found if part < many])


def is_barrier(log, stand, counters, thing):
    """Whether thing is a BARRIER with as many EVENTs and indices as there are elder ROWs and fewest_on."""
    counters = tupled(counters)
    aheads = marked_aheads(log)
    if not is_tuple_of(thing, 2) or not is_cut_by(aheads, thing[0]):
        return False
    cut, places = thing
    if not isinstance(places, tuple) or not all([is_number(at) for at in places]) or not is_ascending(places):
        return False
    if not all([0 <= at < len(counters) for at in places]):
        return False
    sizes = sizes_at(log, stand)
    if not all([is_new(sizes, event) for event in cut]):
        return False
    if any([is_behind(aheads, counters[at], event) for at in places for event in cut]):
        return False
    return len(cut) + len(places) == len(counters) + fewest_on(log, stand, counters)


def most_kept(log, stand, counters, many):
    """How many EVENTs so many ROWs in all, some that go on from elder ones, can count together at the most."""
    return sum(weave_kept(log, stand, tupled(counters), many)[1])


def keep(log, stand, counters, many):
    """Ascending indices of elder ROWs from which most_kept is reached."""
    counters = tupled(counters)
    rows = weave_kept(log, stand, counters, many)[0]
    return tuple(sorted([row[0] for row in rows if row and row[0] < len(counters)]))


def lets_kept(log, stand, counters, bar, many):
    """How many EVENTs so many ROWs in all can count together at the most, by this BAR."""
    cuts, heights = bar
    above = [max(0, len(row) - height) for row, height in zip(counters, heights)]
    return outside(log, stand, cuts) + many * len(cuts) + sum(above)


def bar_kept(log, stand, counters, many):
    """A BAR by which lets_kept is just most_kept."""
    counters = tupled(counters)
    return bar_by(weave_kept(log, stand, counters, many)[2], counters, new_marked(log, stand))


def counter_in(step, lasts, ahead):
    """The counter of this step that an EVENT goes to, with these ahead of it; None if there is none."""
    behind = [counter for counter in step if counter in lasts and lasts[counter] in ahead]
    bare = [counter for counter in step if counter not in lasts]
    return min(behind or bare, default=None)


def step_for(steps, lasts, ahead):
    """The index of the step that an EVENT goes to, a new one if it must be, and the counter in it."""
    for at, step in enumerate(steps):
        counter = counter_in(step, lasts, ahead)
        if counter is not None:
            return at, counter
    at = len(steps)
    first = at * (at + 1) // 2
    steps.append(list(range(first, first + at + 1)))
    return at, first


def stairs(log):
    """The list of (event, counter, step), as they come, by the rule of stairs."""
    aheads = aheads_of(log)
    steps = []
    lasts = {}
    found = []
    for event in marked_coming(log):
        at, counter = step_for(steps, lasts, aheads[event])
        lasts[counter] = event
        found.append((event, counter, at + 1))
        if at > 0:
            others = [other for other in steps[at] if other != counter]
            steps[at] = [counter] + steps[at - 1]
            steps[at - 1] = others
    return found


def stair_costs(log):
    """The list of (event, used, wide, later), as they come: what the rule of stairs costs so far."""
    aheads = aheads_of(log)
    order = marked_coming(log)
    lasts = {}
    found = []
    for at, (event, counter, _) in enumerate(stairs(log)):
        lasts[counter] = event
        rows = [(lasts[one],) for one in lasts]
        wide = len(cover_of(behinds_among(aheads, order[:at + 1])))
        later = len(cover_of(behinds_on(aheads, rows, order[at + 1:])))
        found.append((event, len(rows), wide, later))
    return found
