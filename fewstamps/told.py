"""What STAMPs tell of which EVENT is ahead of which, to one who knows nothing else of the LOG."""

from fewstamps.data import aheads_of, marked_coming
from fewstamps.errors import NoEvent, NotOpen
from fewstamps.forms import is_ascending, is_name, is_number, is_tuple_of, looks_like_event, tupled
from fewstamps.shape import behinds_among, cover_of, named_rows
from fewstamps.stamps import counted, place, stamps


def sheet(log, counters):
    """The SHEET: for each marked EVENT a triple (event, place, STAMP), ascending."""
    return tuple([(event, place(counters, event), numbers) for event, numbers in stamps(log, counters)])


def is_counts(thing):
    """Whether thing is a tuple of numbers from 0."""
    return isinstance(thing, tuple) and all([is_number(part) and part >= 0 for part in thing])


def is_line(thing):
    """Whether thing has the form of a triple on a SHEET."""
    if not is_tuple_of(thing, 3):
        return False
    event, spot, numbers = thing
    if not looks_like_event(event) or not is_name(event[0]) or event[1] < 0 or not is_counts(numbers):
        return False
    if spot is None:
        return True
    # The STAMP of a counted EVENT counts on its own ROW up to itself.
    return is_tuple_of(spot, 2) and is_counts(spot) and spot[0] < len(numbers) and numbers[spot[0]] == spot[1]


def are_lines(thing):
    """Whether thing is an ascending tuple of such triples of different EVENTs, all STAMPs as long."""
    if not isinstance(thing, tuple) or not all([is_line(line) for line in thing]):
        return False
    if not is_ascending([line[0] for line in thing]):
        return False
    return all([len(line[2]) == len(thing[0][2]) for line in thing])


def is_well_counted(lines, counter):
    """Whether the numbers on this counter are 1, 2, .., each once, and no entry is greater than the last."""
    found = sorted([line[1][1] for line in lines if line[1] is not None and line[1][0] == counter])
    if found != list(range(1, len(found) + 1)):
        return False
    return all([line[2][counter] <= len(found) for line in lines])


def is_told(one, other):
    """Whether by these triples the EVENT of the one is told ahead of that of the other."""
    if one[1] is None or one[0] == other[0]:
        return False
    counter, number = one[1]
    return other[2][counter] >= number


def is_left_open(one, other):
    """Whether by these triples the pair of their EVENTs is open."""
    if one[1] is not None or one[0] == other[0] or is_told(other, one):
        return False
    return all([number <= far for number, far in zip(one[2], other[2])])


def is_strict(pairs):
    """Whether none is ahead of itself, and each is ahead of all that those are ahead of that it is ahead of."""
    behinds = {}
    for one, other in pairs:
        behinds.setdefault(one, {})[other] = True
    for one, other in pairs:
        if one == other or any([far not in behinds[one] for far in behinds.get(other, {})]):
            return False
    return True


def is_sheet(thing):
    """Whether thing is a SHEET that some order gives."""
    if not are_lines(thing):
        return False
    many = len(thing[0][2]) if thing else 0
    if not all([is_well_counted(thing, counter) for counter in range(many)]):
        return False
    # If any order gives it, so does the one of the told pairs alone.
    return is_strict(told_pairs(thing))


def is_order(sheet, thing):
    """Whether thing is an ORDER that gives the SHEET."""
    lines = lines_of(sheet)
    if not isinstance(thing, tuple) or not all([is_pair_on(lines, pair) for pair in thing]):
        return False
    # The pairs whose first EVENT is counted are those that the STAMPs tell; the others are free.
    told = [pair for pair in thing if lines[pair[0]][1] is not None]
    return is_ascending(thing) and is_strict(thing) and told == told_pairs(sheet)


def is_pair_on(lines, thing):
    """Whether thing is a pair of EVENTs that have lines."""
    return is_tuple_of(thing, 2) and all([looks_like_event(event) and event in lines for event in thing])


def lines_of(given):
    """The triples of the SHEET by their EVENTs."""
    return {line[0]: line for line in tupled(given)}


def pair_on(lines, one, other):
    """The EVENTs as tuples; raises NoEvent for the first one that has no line."""
    pair = (tupled(one), tupled(other))
    for event in pair:
        if event not in lines:
            raise NoEvent(event)
    return pair


def tells(sheet, one, other):
    """What is told of the pair: "ahead", "not" or "open"; raises NoEvent."""
    lines = lines_of(sheet)
    one, other = pair_on(lines, one, other)
    if is_told(lines[one], lines[other]):
        return "ahead"
    return "open" if is_left_open(lines[one], lines[other]) else "not"


def tells_now(log, counters, one, other):
    """What is told of the pair by the SHEET of the LOG; raises NoEvent."""
    return tells(sheet(log, counters), one, other)


def told_pairs(sheet):
    """The ascending list of the pairs that are told ahead."""
    lines = tupled(sheet)
    return [(one[0], other[0]) for one in lines for other in lines if is_told(one, other)]


def open_pairs(sheet):
    """The ascending list of the pairs that are open."""
    lines = tupled(sheet)
    return [(one[0], other[0]) for one in lines for other in lines if is_left_open(one, other)]


def orders(sheet, one, other):
    """Two ORDERs that give the SHEET: by the second one is ahead of other, by the first it is not.

    Raises NoEvent, then NotOpen.
    """
    lines = lines_of(sheet)
    one, other = pair_on(lines, one, other)
    if not is_left_open(lines[one], lines[other]):
        raise NotOpen(one, other)
    told = told_pairs(sheet)
    # All that are told ahead of one are told ahead of other, too: its STAMP is nowhere less.
    further = [(one, other)] + [(one, far) for before, far in told if before == other]
    return tuple(told), tuple(sorted(told + further))


def sure(sheet):
    """The ascending list of the EVENTs that are not the first one of any open pair."""
    firsts = {one: True for one, _ in open_pairs(sheet)}
    return [line[0] for line in tupled(sheet) if line[0] not in firsts]


def pasts_of(log):
    """The marked EVENTs as they come, and for each the bits of those that are it or ahead of it.

    Here and below bit k stands for the EVENT at place k of this list.
    """
    aheads = aheads_of(log)
    order = marked_coming(log)
    pasts = [bits_of(order, [one for one in order if one == event or one in aheads[event]]) for event in order]
    return order, pasts


def bits_of(order, chosen):
    """The bits of the chosen EVENTs."""
    return sum([1 << order.index(event) for event in chosen])


def chosen_by(order, bits):
    """The EVENTs with these bits, as they come."""
    return [event for at, event in enumerate(order) if bits >> at & 1]


def how_many_open(pasts, bits):
    """How many pairs are open if the EVENTs with these bits are counted."""
    many = 0
    for one, past in enumerate(pasts):
        known = past & bits
        if not bits >> one & 1:
            # Not those that are told ahead of it, nor itself.
            others = [far for other, far in enumerate(pasts) if other != one and not known >> other & 1]
            many += len([far for far in others if far & known == known])
    return many


def widths_of(pasts):
    """For each choice of EVENTs, by its bits, how many EVENTs the widest CUT of these has."""
    besides = []
    for one, past in enumerate(pasts):
        places = [at for at, far in enumerate(pasts) if not past >> at & 1 and not far >> one & 1]
        besides.append(sum([1 << at for at in places]))
    widths = [0]
    for bits in range(1, 1 << len(pasts)):
        last = bits.bit_length() - 1
        rest = bits - (1 << last)
        widths.append(max(widths[rest], 1 + widths[rest & besides[last]]))
    return widths


def dropped(log, counters):
    """For each counter how many pairs more are open if it is left out."""
    counters = tupled(counters)
    order, pasts = pasts_of(log)
    bits = bits_of(order, counted(counters))
    many = how_many_open(pasts, bits)
    return [how_many_open(pasts, bits - bits_of(order, row)) - many for row in counters]


def added(log, counters):
    """The further ROW with which as few pairs as can be are open, of several the least, and how many are."""
    order, pasts = pasts_of(log)
    bits = bits_of(order, counted(counters))
    found = []
    for further, width in enumerate(widths_of(pasts)):
        if width <= 1 and not further & bits:
            found.append((how_many_open(pasts, bits | further), tuple(chosen_by(order, further))))
    many, row = min(found)
    return row, many


def best_choice(log, many):
    """How few pairs can be open with at most so many counters, and EVENTs, as they come, to count for it."""
    order, pasts = pasts_of(log)
    choices = [bits for bits, width in enumerate(widths_of(pasts)) if width <= many]
    fewest, best = min([(how_many_open(pasts, bits), bits) for bits in choices])
    return fewest, chosen_by(order, best)


def least_open(log, many):
    """How few pairs can be open with at most so many counters."""
    return best_choice(log, many)[0]


def telling(log, many):
    """COUNTERS, at most so many, with which as few pairs are open as can be."""
    chosen = best_choice(log, many)[1]
    return named_rows(cover_of(behinds_among(aheads_of(log), chosen)), chosen)


def fewest_telling(log):
    """The least number of counters with which no pair is open."""
    _, pasts = pasts_of(log)
    return min([width for bits, width in enumerate(widths_of(pasts)) if how_many_open(pasts, bits) == 0])
