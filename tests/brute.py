"""Slow answers by trying everything, straight as the document says it, without the package."""

import itertools
import random
from functools import lru_cache

from tests.helpers import ahead_pairs, all_events, marked_events, random_log


def drawn_logs(seed, many, least, most):
    """So many random LOGs with from least to most marked EVENTs."""
    rng = random.Random(seed)
    found = []
    while len(found) < many:
        log = random_log(rng)
        if least <= len(marked_events(log)) <= most:
            found.append(log)
    return found


def full_log(rng):
    """A random LOG at the bounds of [3]: 5 MACHINEs, 16 EVENTs, 12 of them marked, at most 16 messages."""
    names = ("a", "bb", "c", "dddddddd", "z")
    ends = [0] + sorted(rng.randint(0, 16) for _ in range(4)) + [16]
    sizes = {name: high - low for name, low, high in zip(names, ends, ends[1:])}
    every = [(name, number) for name in names for number in range(sizes[name])]
    marks = rng.sample(every, 12)
    order, done = [], {name: 0 for name in names}
    while len(order) < 16:
        name = rng.choice([name for name in names if done[name] < sizes[name]])
        order.append((name, done[name]))
        done[name] += 1
    messages, wanted = set(), rng.choice((0, 4, 8, 12, 16))
    for _ in range(300):
        one, other = sorted(rng.sample(range(16), 2))
        if order[one][0] != order[other][0] and len(messages) < wanted:
            messages.add((order[one], order[other]))
    machines = tuple((name, sizes[name], tuple(sorted(k for one, k in marks if one == name))) for name in names)
    return machines, tuple(sorted(messages))


def full_logs(seed, many):
    rng = random.Random(seed)
    return [full_log(rng) for _ in range(many)]


def renamed_order(log):
    """The marked EVENTs, ascending, and the pairs of them with one ahead of other."""
    names = sorted(marked_events(log))
    return names, {pair for pair in ahead_pairs(log) if pair[0] in names and pair[1] in names}


def choices_of(names):
    """All sets of these names, each as an ascending tuple."""
    for many in range(len(names) + 1):
        yield from itertools.combinations(names, many)


def is_row_set(pairs, chosen):
    return all((one, other) in pairs or (other, one) in pairs for one, other in itertools.combinations(chosen, 2))


def is_cut_set(pairs, chosen):
    return not any((one, other) in pairs for one in chosen for other in chosen)


def in_row_order(pairs, chosen):
    """The names of a ROW in the order in which they are ahead of one another."""
    return tuple(sorted(chosen, key=lambda name: sum((one, name) in pairs for one in chosen)))


def all_rows(names, pairs):
    return [in_row_order(pairs, chosen) for chosen in choices_of(names) if is_row_set(pairs, chosen)]


def all_cuts(names, pairs):
    return [chosen for chosen in choices_of(names) if is_cut_set(pairs, chosen)]


def bits_of(names, chosen):
    return sum(1 << names.index(name) for name in chosen)


def unions(begun, parts):
    """All unions of one of the begun sets and one of the parts without a common bit."""
    return {one | part for one in begun for part in parts if not one & part}


def sets_by(names, parts, many):
    """All sets of names, as bits, on so many of the parts that have no common name."""
    bits = [bits_of(names, part) for part in parts]
    found = {0}
    for _ in range(many):
        found = unions(found, bits)
    return found


def size(bits):
    return bin(bits).count("1")


def most_by(found):
    return max(size(bits) for bits in found)


def families(parts, many):
    """All tuples of so many parts without a common name, () among them as often as wanted, in one order."""
    def grow(family, used, at):
        if len(family) == many:
            yield tuple(family)
            return
        for index in range(at, len(parts)):
            part = parts[index]
            if not used & set(part):
                yield from grow(family + [part], used | set(part), index if not part else index + 1)
    yield from grow([], set(), 0)


def are_rows(names, pairs, rows):
    """Whether these are a tuple of tuples that are ROWs without a common EVENT."""
    found = [event for row in rows for event in row]
    return (
        isinstance(rows, tuple) and all(isinstance(row, tuple) for row in rows)
        and set(found) <= set(names) and len(set(found)) == len(found)
        and all(pair in pairs for row in rows for pair in zip(row, row[1:]))
    )


def are_cuts(names, pairs, cuts):
    """Whether these are a tuple of ascending tuples that are CUTs without a common EVENT."""
    found = [event for cut in cuts for event in cut]
    return (
        isinstance(cuts, tuple) and all(isinstance(cut, tuple) for cut in cuts)
        and set(found) <= set(names) and len(set(found)) == len(found)
        and all(list(cut) == sorted(cut) and is_cut_set(pairs, cut) for cut in cuts)
    )


def do_fit(names, rows, cuts):
    """Whether COUNTERS and cuts fit."""
    found = {event for part in rows + cuts for event in part}
    return found == set(names) and all(set(row) & set(cut) for row in rows for cut in cuts)


@lru_cache(maxsize=None)
def orders_on(names):
    """All orders on these names, each a frozenset of the pairs (one, other) with one ahead of other."""
    if not names:
        return (frozenset(),)
    first, rest = names[0], names[1:]
    found = []
    for order in orders_on(rest):
        for sides in itertools.product((-1, 0, 1), repeat=len(rest)):
            ahead = [name for name, side in zip(rest, sides) if side < 0]
            behind = [name for name, side in zip(rest, sides) if side > 0]
            pairs = set(order) | {(name, first) for name in ahead} | {(first, name) for name in behind}
            if all((one, far) in pairs for one, other in pairs for next_one, far in pairs if other == next_one):
                found.append(frozenset(pairs))
    return tuple(found)


def gives(lines, order):
    """Whether the order gives the SHEET with these lines."""
    for one, place, _ in lines:
        for other, other_place, _ in lines:
            if place and other_place and place[0] == other_place[0]:
                if ((one, other) in order) != (place[1] < other_place[1]):
                    return False
    for event, _, numbers in lines:
        for counter, number in enumerate(numbers):
            on_it = [one for one, place, _ in lines if place and place[0] == counter]
            if number != sum(one == event or (one, event) in order for one in on_it):
                return False
    return True


def giving(lines):
    """All orders that give the SHEET."""
    return [order for order in orders_on(tuple(line[0] for line in lines)) if gives(lines, order)]


def is_new(log, stand, event):
    return event[1] >= dict(zip([machine[0] for machine in log[0]], stand))[event[0]]


def random_stand(rng, log):
    """A STAND of the LOG."""
    pairs = ahead_pairs(log)
    elder = set()
    for event in rng.sample(all_events(log), rng.randint(0, min(3, len(all_events(log))))):
        elder.add(event)
        elder |= {one for one, other in pairs if other == event}
    return tuple(sum(event[0] == machine[0] for event in elder) for machine in log[0])


def all_stands(log):
    """All STANDs of the LOG."""
    steps = ahead_pairs(log)
    found = []
    for stand in itertools.product(*[range(machine[1] + 1) for machine in log[0]]):
        if not any(is_new(log, stand, one) and not is_new(log, stand, other) for one, other in steps):
            found.append(stand)
    return found


def random_elders(rng, log, stand):
    """COUNTERS of elder EVENTs alone, maybe not of all, some of them maybe bare."""
    pairs = ahead_pairs(log)
    rows = [[] for _ in range(rng.randint(0, 3))]
    for event in sorted(marked_events(log), key=lambda event: sum(pair[1] == event for pair in pairs)):
        fitting = [row for row in rows if not row or (row[-1], event) in pairs]
        if not is_new(log, stand, event) and fitting and rng.random() < 0.8:
            rng.choice(fitting).append(event)
    return tuple(tuple(row) for row in rows)


def is_open(pairs, row, event):
    return not row or (row[-1], event) in pairs


class Growing:
    """A LOG with a STAND and elder ROWs, and what is tried of it."""

    def __init__(self, log, stand, counters):
        self.log, self.stand, self.counters = log, stand, counters
        self.names, self.pairs = renamed_order(log)
        self.new = [event for event in self.names if is_new(log, stand, event)]

    def open_to(self, index, event):
        return is_open(self.pairs, self.counters[index], event)

    def goings(self, index):
        """All that the elder ROW can go on with, as bits."""
        rows = all_rows(self.new, self.pairs)
        return [bits_of(self.new, row) for row in rows if not row or self.open_to(index, row[0])]

    def sets_on(self, indices, many):
        """All sets of new EVENTs, as bits, that these elder ROWs and so many further ones can count."""
        found = {0}
        for index in indices:
            found = unions(found, self.goings(index))
        further = [bits_of(self.new, row) for row in all_rows(self.new, self.pairs)]
        for _ in range(many):
            found = unions(found, further)
        return found

    def most_on(self, many):
        return most_by(self.sets_on(range(len(self.counters)), many))

    def most_kept(self, many):
        every = range(len(self.counters))
        found = []
        for kept in choices_of(every):
            if len(kept) <= many:
                own = sum(len(self.counters[index]) for index in kept)
                found.append(own + most_by(self.sets_on(kept, many - len(kept))))
        return max(found)

    def is_bar(self, cuts, heights):
        return (
            are_cuts(self.new, self.pairs, cuts)
            and len(heights) == len(self.counters) and all(0 <= height <= len(cuts) for height in heights)
            and not any(
                self.open_to(index, event)
                for index, height in enumerate(heights) for cut in cuts[:height] for event in cut
            )
        )

    def lets(self, cuts, heights, many):
        outside = len(self.new) - sum(len(cut) for cut in cuts)
        return outside + many * len(cuts) + sum(len(cuts) - height for height in heights)

    def lets_kept(self, cuts, heights, many):
        outside = len(self.new) - sum(len(cut) for cut in cuts)
        above = [len(row) - height for row, height in zip(self.counters, heights) if len(row) > height]
        return outside + many * len(cuts) + sum(above)

    def bars(self, most):
        """All BARs of at most so many CUTs."""
        cuts = all_cuts(self.new, self.pairs)
        for many in range(most + 1):
            for chosen in itertools.product(cuts, repeat=many):
                found = [event for cut in chosen for event in cut]
                if len(set(found)) == len(found):
                    for heights in itertools.product(range(many + 1), repeat=len(self.counters)):
                        if self.is_bar(chosen, heights):
                            yield chosen, heights

    def is_blocking(self, cut, indices):
        return not any(self.open_to(index, event) for index in indices for event in cut)

    def widest_barrier(self):
        """How many EVENTs and indices a pair (cut, rows) of this kind has at the most."""
        return max(
            len(cut) + len(indices)
            for cut in all_cuts(self.new, self.pairs) for indices in choices_of(range(len(self.counters)))
            if self.is_blocking(cut, indices)
        )


def drawn_growing(seed, many, most):
    """So many random LOGs of at most so many marked EVENTs with STANDs and elder ROWs."""
    rng = random.Random(seed)
    found = []
    for log in drawn_logs(seed, many, 0, most):
        stand = random_stand(rng, log)
        found.append(Growing(log, stand, random_elders(rng, log, stand)))
    return found


def full_growing(seed, many):
    """The same at the bounds of [3]."""
    rng = random.Random(seed)
    found = []
    for log in full_logs(seed, many):
        stand = random_stand(rng, log)
        found.append(Growing(log, stand, random_elders(rng, log, stand)))
    return found
