"""How much so many counters can count, and how much so many cuts can have.

ROWs are woven one by one: each further one is a way of the greatest gain through gates, on which links of
the ROWs so far may be taken back. What such ways gain up to each gate then tells the cuts, too.
"""

from fewstamps.data import aheads_of, marked, marked_coming
from fewstamps.forms import is_tuple_of
from fewstamps.stamps import are_counters_by, are_cuts_by, marked_aheads

# What is woven are parts, numbered from 0: an EVENT, or a ROW that stands already. Part p has the gate
# 2 * p in and the gate 2 * p + 1 out. START is a gate out and END a gate in, of parts -1 and -2.
START = -1
END = -4


def behinds_among(aheads, chosen):
    """For each of the chosen EVENTs the places in this list of those behind it."""
    return [[at for at, other in enumerate(chosen) if one in aheads[other]] for one in chosen]


def links_of(rows):
    """The links of the rows, bare ones too: from START or a gate out to a gate in or END."""
    links = []
    for row in rows:
        gate = START
        for part in row:
            links.append((gate, 2 * part))
            gate = 2 * part + 1
        links.append((gate, END))
    return links


def rows_of(links):
    """The rows with these links."""
    nexts = {one: other for one, other in links if one != START}
    rows = []
    for one, other in links:
        if one == START:
            row = []
            gate = other
            while gate != END:
                row.append(gate // 2)
                gate = nexts[gate + 1]
            rows.append(row)
    return rows


def arcs_of(weights, behinds, rows):
    """All (gate, gate, gain) by which the rows can be changed: new links, and old ones taken back."""
    on_rows = {part: True for row in rows for part in row}
    arcs = [(START, END, 0)]
    for part, weight in enumerate(weights):
        arcs.append((START, 2 * part, 0))
        if part in on_rows:
            arcs.append((2 * part + 1, 2 * part, -weight))
        else:
            arcs.append((2 * part, 2 * part + 1, weight))
        for behind in behinds[part]:
            arcs.append((2 * part + 1, 2 * behind, 0))
        arcs.append((2 * part + 1, END, 0))
    for one, other in links_of(rows):
        arcs.append((other, one, 0))
    return arcs


def farthest(arcs):
    """For each gate the most that a way from START gains, and the gate just ahead of it on such a way."""
    most = {START: 0}
    befores = {}
    found = True
    # This ends, for no way that comes back to where it began gains anything.
    while found:
        found = False
        for one, other, gain in arcs:
            if one in most and (other not in most or most[one] + gain > most[other]):
                most[other] = most[one] + gain
                befores[other] = one
                found = True
    return most, befores


def woven(rows, befores):
    """The rows, one more, after the change along the way to END."""
    links = links_of(rows)
    gate = END
    while gate != START:
        before = befores[gate]
        # A step within a part is no link: whether the part is on a row follows from the links.
        if before // 2 != gate // 2:
            if before & 1:
                links.append((before, gate))
            else:
                links.remove((gate, before))
        gate = before
    return rows_of(links)


def weave(weights, behinds, many):
    """So many rows of parts that weigh the most, and by how much each of them, one by one, made them more.

    behinds must hold all that are behind a part, not just those next behind it.
    """
    rows = []
    grown = []
    for _ in range(many):
        most, befores = farthest(arcs_of(weights, behinds, rows))
        grown.append(most[END])
        rows = woven(rows, befores)
    return rows, grown


def gains_of(behinds):
    """The gains of parts that all weigh 1."""
    return [gain for gain in weave([1] * len(behinds), behinds, len(behinds))[1] if gain > 0]


def find_next(behinds, befores, part, tried):
    """Whether a part could be found that comes next behind this one; befores is changed so."""
    for behind in behinds[part]:
        if behind not in tried:
            tried[behind] = True
            if behind not in befores or find_next(behinds, befores, befores[behind], tried):
                befores[behind] = part
                return True
    return False


def cover_of(behinds):
    """As few rows as can be with all parts: as many as the widest cut has."""
    befores = {}
    for part in range(len(behinds)):
        find_next(behinds, befores, part, {})
    nexts = {befores[part]: part for part in befores}
    rows = []
    for part in range(len(behinds)):
        if part not in befores:
            row = [part]
            while row[-1] in nexts:
                row.append(nexts[row[-1]])
            rows.append(row)
    return rows


def widest_of(behinds):
    """Of the widest cuts of these parts the least one, as an ascending list."""
    left = list(range(len(behinds)))
    cut = []
    wanted = len(cover_of(behinds))
    while wanted > 0:
        part = left.pop(0)
        rest = [other for other in left if other not in behinds[part] and part not in behinds[other]]
        if 1 + len(cover_of(only(behinds, rest))) == wanted:
            cut.append(part)
            left = rest
            wanted -= 1
    return cut


def only(behinds, chosen):
    """For each of the chosen parts the places in this list of those behind it."""
    return [[at for at, other in enumerate(chosen) if other in behinds[part]] for part in chosen]


def named_rows(rows, names):
    """The rows as a tuple of tuples, with the names of their parts."""
    return tuple([tuple([names[part] for part in row]) for row in rows])


def cuts_by(most, first, names):
    """The cuts that the ways up to each gate tell of the parts from first on, with the names of these.

    A part is in the cut with the index that a way gains up to it, if a way on through it gains one more.
    """
    cuts = [[] for _ in range(most[END])]
    for at, name in enumerate(names):
        gate = 2 * (first + at)
        if most[gate] < most[gate + 1]:
            cuts[most[gate]].append(name)
    return tuple([tuple(cut) for cut in cuts])


def behinds_of(log):
    """For each marked EVENT the places of those behind it, among all marked ones in ascending order."""
    return behinds_among(aheads_of(log), marked(log))


def gains(log):
    """By how many EVENTs the most that i counters can count is greater than that of i - 1, from 1 on."""
    return gains_of(behinds_of(log))


def most_counted(log, many):
    """How many EVENTs so many counters can count at the most."""
    return sum(gains(log)[:many])


def most_cut(log, many):
    """How many EVENTs so many cuts can have at the most."""
    return sum([min(gain, many) for gain in gains(log)])


def best_counters(log, many):
    """So many counters that count the most."""
    names = marked(log)
    return named_rows(weave([1] * len(names), behinds_of(log), many)[0], names)


def best_cuts(log, many):
    """So many cuts that have the most."""
    # The counters that gain at least so much each are those with which so many cuts fit.
    return fitting(log, len([gain for gain in gains(log) if gain >= many]), many)[1]


def fitting(log, many, height):
    """A pair of so many counters (many) and so many cuts (height) that fit; None if there is none."""
    names = marked(log)
    weights = [1] * len(names)
    behinds = behinds_of(log)
    rows, grown = weave(weights, behinds, many)
    arcs = arcs_of(weights, behinds, rows)
    if height < farthest(arcs)[0][END] or (many > 0 and height > grown[-1]):
        return None
    # By the further arc the ways gain height up to END, and each row passes as many cuts.
    most = farthest(arcs + [(START, END, height)])[0]
    return named_rows(rows, names), cuts_by(most, 0, names)


def fits(log, thing):
    """Whether thing is a pair of COUNTERS and cuts that fit."""
    aheads = marked_aheads(log)
    if not is_tuple_of(thing, 2) or not are_counters_by(aheads, thing[0]) or not are_cuts_by(aheads, thing[1]):
        return False
    counters, cuts = thing
    found = {event: True for part in counters + cuts for event in part}
    if len(found) < len(aheads):
        return False
    return all([any([event in cut for event in row]) for row in counters for cut in cuts])


def fewest_for(log, many):
    """The least number of counters that can count at least so many EVENTs; None if there are not so many."""
    left = many
    counters = 0
    for gain in gains(log):
        if left > 0:
            left -= gain
            counters += 1
    return counters if left <= 0 else None


def weigh(log, many, event, weight):
    """What so many rows weigh at the most if this EVENT weighs so much, and each other one 2."""
    weights = [weight if other == event else 2 for other in marked(log)]
    return sum(weave(weights, behinds_of(log), many)[1])


def in_every(log, many):
    """The ascending list of the EVENTs that are counted by all counters, so many, that count the most."""
    most = most_counted(log, many)
    return [event for event in marked(log) if weigh(log, many, event, 1) < 2 * most]


def in_none(log, many):
    """The ascending list of the EVENTs that are counted by none of the counters, so many, that count the most."""
    most = most_counted(log, many)
    return [event for event in marked(log) if weigh(log, many, event, 3) == 2 * most]


def raised_by(aheads, order):
    """For these EVENTs, one by one, the pairs (event, i): a(i) of those so far is greater by 1 with this one."""
    before = []
    found = []
    for at, event in enumerate(order):
        now = gains_of(behinds_among(aheads, order[:at + 1]))
        grown = [place for place, gain in enumerate(now) if [gain] != before[place:place + 1]]
        found.append((event, grown[0] + 1))
        before = now
    return found


def raised(log):
    """For the EVENTs as they come the pairs (event, i): a(i) of those so far is greater by 1 with this one."""
    return raised_by(aheads_of(log), marked_coming(log))
