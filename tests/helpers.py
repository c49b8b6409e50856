"""LOGs to test with, values of wrong forms, and a slow second way to tell what is ahead.

Nothing here uses the package, so that the tests compare two independent programs.
"""

import random

LOG = (
    (("a", 3, (0, 1, 2)), ("b", 3, (0, 2)), ("c", 2, (0, 1))),
    ((("a", 0), ("b", 1)), (("b", 1), ("c", 1))),
)
COUNTERS = ((("a", 0), ("a", 1), ("a", 2)), (("b", 0), ("c", 1)))

EMPTY = ((), ())
BARE_MACHINES = ((("a", 0, ()), ("b", 0, ())), ())
UNMARKED = ((("a", 2, ()), ("b", 1, ())), ((("a", 0), ("b", 0)),))
# One EVENT sends three messages, and three come to one.
MANY_MESSAGES = (
    (("p", 3, (0, 2)), ("q", 3, (1,)), ("r", 3, (0, 1, 2))),
    (
        (("p", 0), ("q", 1)),
        (("p", 0), ("r", 1)),
        (("p", 0), ("r", 2)),
        (("p", 1), ("r", 2)),
        (("q", 1), ("r", 2)),
    ),
)
# Two ways of three steps and two of two lead from p 0 to s 0.
WAYS = (
    (("p", 2, (0, 1)), ("q", 2, (0,)), ("r", 2, (1,)), ("s", 1, (0,))),
    (
        (("p", 0), ("q", 0)),
        (("p", 0), ("q", 1)),
        (("p", 0), ("r", 1)),
        (("p", 1), ("q", 1)),
        (("q", 1), ("s", 0)),
        (("r", 1), ("s", 0)),
    ),
)
# The bounds of [3]: 5 MACHINEs, 16 EVENTs, 12 of them marked, 16 messages.
BOUND = (
    (
        ("alpha", 4, (0, 1, 3)),
        ("b", 3, (0, 1, 2)),
        ("c", 3, (1, 2)),
        ("dd", 3, (0, 1)),
        ("machines", 3, (0, 2)),
    ),
    (
        (("alpha", 0), ("b", 1)),
        (("alpha", 0), ("c", 0)),
        (("alpha", 0), ("machines", 2)),
        (("alpha", 1), ("b", 1)),
        (("alpha", 1), ("dd", 2)),
        (("alpha", 2), ("b", 2)),
        (("b", 0), ("alpha", 1)),
        (("b", 1), ("c", 1)),
        (("b", 1), ("machines", 1)),
        (("b", 2), ("alpha", 3)),
        (("c", 0), ("dd", 0)),
        (("c", 1), ("machines", 2)),
        (("dd", 0), ("alpha", 2)),
        (("dd", 0), ("machines", 0)),
        (("dd", 1), ("alpha", 3)),
        (("machines", 0), ("c", 2)),
    ),
)
LOGS = (LOG, EMPTY, BARE_MACHINES, UNMARKED, MANY_MESSAGES, WAYS, BOUND)

# Values of other kinds and forms, none of which is a LOG, a ROW, a CUT or COUNTERS.
JUNK = (
    0, 1, -1, 10**40, True, False, None, "", "a", "ab", "()", [], [[], []], [()], ([],), ([], []),
    ((), []), ([], ()), (0,), (True,), (None,), ("",), ("a",), ("a", 0), ("a", "b"), (None, None),
    (True, False), (0, 0), ["a", 0], (["a", 0],), [("a", 0)], ((("a", [0]),),), (("a", True),),
    (("a", False),), (("a", None),), (("a", "0"),), ((0, "a"),), (("a",),), (("a", 0, 0),),
    (((("a", 0),),),), (((("a", True),),),), ((((("a", 0),),),),), ("a0",), (("a0",),),
    ((((((((((((),),),),),),),),),),),),
)


def listed(value):
    """The value, with a list for each tuple, at every depth."""
    if isinstance(value, (list, tuple)):
        return [listed(part) for part in value]
    return value


def mixed(value, depth=0):
    """The value, with lists and tuples by turns from level to level."""
    if not isinstance(value, (list, tuple)):
        return value
    parts = [mixed(part, depth + 1) for part in value]
    return parts if depth % 2 else tuple(parts)


def all_events(log):
    return [(name, number) for name, many, _ in log[0] for number in range(many)]


def marked_events(log):
    return [(name, number) for name, _, marks in log[0] for number in marks]


def next_pairs(log):
    """The pairs of an EVENT and one that is next behind it."""
    pairs = set(log[1])
    for name, many, _ in log[0]:
        for number in range(1, many):
            pairs.add(((name, number - 1), (name, number)))
    return pairs


def ahead_pairs(log):
    """The pairs (one, other) with one ahead of other, by Warshall's rule."""
    found = set(next_pairs(log))
    every = all_events(log)
    for middle in every:
        for one in every:
            for other in every:
                if (one, middle) in found and (middle, other) in found:
                    found.add((one, other))
    return found


def ways_from(log, one, other):
    """All tuples of EVENTs from one to other, each next behind the one before."""
    steps = next_pairs(log)
    every = all_events(log)
    found, begun = [], [(one,)]
    while begun:
        row = begun.pop()
        for event in every:
            if (row[-1], event) in steps:
                begun.append(row + (event,))
                if event == other:
                    found.append(row + (event,))
    return found


def coming_order(log):
    """The order of coming, straight as the document says it."""
    pairs = ahead_pairs(log)
    left, order = all_events(log), []
    while left:
        ready = [event for event in left if not any((one, event) in pairs for one in left)]
        order.append(min(ready))
        left.remove(min(ready))
    return order


def random_machines(rng):
    machines = []
    for name in sorted(rng.sample(["a", "b", "c", "d", "zz", "abcdefgh"], rng.randint(0, 4))):
        many = rng.randint(0, 4)
        marks = tuple(number for number in range(many) if rng.random() < 0.7)
        machines.append((name, many, marks))
    return tuple(machines)


def random_log(rng):
    """A LOG: its EVENTs are put in some order, and messages go forwards in it alone."""
    machines = random_machines(rng)
    left = {name: 0 for name, many, _ in machines for _ in range(many)}
    sizes = {name: many for name, many, _ in machines}
    order = []
    while left:
        name = rng.choice(sorted(left))
        order.append((name, left[name]))
        left[name] += 1
        if left[name] == sizes[name]:
            del left[name]
    messages = set()
    for _ in range(rng.randint(0, 6)):
        if len(order) > 1:
            one, other = sorted(rng.sample(range(len(order)), 2))
            if order[one][0] != order[other][0]:
                messages.add((order[one], order[other]))
    return (machines, tuple(sorted(messages)))


def random_logs(seed, many):
    rng = random.Random(seed)
    return [random_log(rng) for _ in range(many)]


def random_counters(rng, log):
    """COUNTERS of the LOG, some of their ROWs maybe bare."""
    pairs = ahead_pairs(log)
    rows = [[] for _ in range(rng.randint(0, 4))]
    order = [event for event in coming_order(log) if event in marked_events(log)]
    for event in order:
        fitting = [row for row in rows if not row or (row[-1], event) in pairs]
        if fitting and rng.random() < 0.8:
            rng.choice(fitting).append(event)
    return tuple(tuple(row) for row in rows)
