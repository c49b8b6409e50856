"""Logs, and which of their EVENTs are ahead of which."""

from heapq import heappop, heappush

from fewstamps.errors import NoEvent, NotAhead
from fewstamps.forms import is_ascending, is_name, is_number, is_tuple_of, looks_like_event, tupled


def is_log(thing):
    """Whether thing is a LOG."""
    if not is_tuple_of(thing, 2):
        return False
    machines, messages = thing
    return are_machines(machines) and are_messages(machines, messages) and not has_ring(messages)


def are_machines(thing):
    """Whether thing is an ascending tuple of MACHINEs with different names."""
    if not isinstance(thing, tuple) or not all([is_machine(machine) for machine in thing]):
        return False
    # Names that ascend are different ones, and the MACHINEs then ascend, too.
    return is_ascending([machine[0] for machine in thing])


def is_machine(thing):
    """Whether thing is a MACHINE."""
    if not is_tuple_of(thing, 3):
        return False
    name, many, marks = thing
    return is_name(name) and is_number(many) and many >= 0 and are_marks(marks, many)


def are_marks(thing, many):
    """Whether thing is an ascending tuple of numbers from 0, less than many."""
    if not isinstance(thing, tuple) or not all([is_number(mark) for mark in thing]):
        return False
    return is_ascending(thing) and all([0 <= mark < many for mark in thing])


def are_messages(machines, thing):
    """Whether thing is an ascending tuple of messages between these MACHINEs."""
    sizes = sizes_of(machines)
    if not isinstance(thing, tuple) or not all([is_message(sizes, message) for message in thing]):
        return False
    return is_ascending(thing)


def is_message(sizes, thing):
    """Whether thing is a message between MACHINEs of these sizes."""
    if not is_tuple_of(thing, 2):
        return False
    sent, come = thing
    return is_event(sizes, sent) and is_event(sizes, come) and sent[0] != come[0]


def sizes_of(machines):
    """How many EVENTs each MACHINE has, by names."""
    return {machine[0]: machine[1] for machine in machines}


def is_event(sizes, thing):
    """Whether thing is an EVENT of a MACHINE among those of these sizes."""
    if not looks_like_event(thing) or thing[0] not in sizes:
        return False
    return 0 <= thing[1] < sizes[thing[0]]


def has_ring(messages):
    """Whether by these messages an EVENT would be ahead of itself."""
    # Only EVENTs with messages can be on a ring; a MACHINE may have any number of others.
    found = sorted(set([event for message in messages for event in message]))
    return len(least_first(linked(found, messages))) < len(found)


def linked(found, messages):
    """For each of these ascending EVENTs those among them that it is next behind."""
    befores = {}
    last = None
    for event in found:
        same = last is not None and last[0] == event[0]
        befores[event] = [last] if same else []
        last = event
    for sent, come in messages:
        befores[come].append(sent)
    return befores


def turned(befores):
    """For each EVENT those that are next behind it."""
    behinds = {event: [] for event in befores}
    for event in befores:
        for before in befores[event]:
            behinds[before].append(event)
    return behinds


def least_first(befores):
    """The EVENTs, always the least of those that can come; on a ring and behind it none can."""
    behinds = turned(befores)
    waits = {event: len(befores[event]) for event in befores}
    ready = sorted([event for event in befores if not befores[event]])
    order = []
    while ready:
        event = heappop(ready)
        order.append(event)
        for behind in behinds[event]:
            waits[behind] -= 1
            if waits[behind] == 0:
                heappush(ready, behind)
    return order


def befores_of(log):
    """For each EVENT of the LOG those that it is next behind."""
    log = tupled(log)
    return linked(events(log), log[1])


def aheads_of(log):
    """For each EVENT of the LOG a dict with all that are ahead of it as its keys."""
    befores = befores_of(log)
    aheads = {}
    for event in least_first(befores):
        found = {}
        for before in befores[event]:
            found[before] = True
            for far in aheads[before]:
                found[far] = True
        aheads[event] = found
    return aheads


def there(log, event):
    """The EVENT as a tuple; raises NoEvent if it is none of the LOG."""
    event = tupled(event)
    if not is_event(sizes_of(log[0]), event):
        raise NoEvent(event)
    return event


def events(log):
    """The ascending list of all EVENTs."""
    return [(machine[0], number) for machine in log[0] for number in range(machine[1])]


def marked(log):
    """The ascending list of the marked EVENTs."""
    return [(machine[0], mark) for machine in log[0] for mark in machine[2]]


def is_ahead(log, one, other):
    """Whether the EVENT one is ahead of other; raises NoEvent."""
    one = there(log, one)
    other = there(log, other)
    return one in aheads_of(log)[other]


def past(log, event):
    """The ascending list of all EVENTs ahead of this one; raises NoEvent."""
    event = there(log, event)
    return sorted(aheads_of(log)[event])


def way(log, one, other):
    """The least of the shortest tuples of EVENTs from one to other, each next behind the one before.

    Raises NoEvent, then NotAhead.
    """
    one = there(log, one)
    other = there(log, other)
    befores = befores_of(log)
    steps = steps_to(befores, other)
    if one == other or one not in steps:
        raise NotAhead(one, other)
    behinds = turned(befores)
    found = [one]
    while found[-1] != other:
        left = steps[found[-1]] - 1
        found.append(min([event for event in behinds[found[-1]] if steps.get(event) == left]))
    return tuple(found)


def steps_to(befores, goal):
    """How many steps at the least lead to the goal, for itself and each EVENT ahead of it."""
    steps = {goal: 0}
    queue = [goal]
    at = 0
    while at < len(queue):
        event = queue[at]
        at += 1
        for before in befores[event]:
            if before not in steps:
                steps[before] = steps[event] + 1
                queue.append(before)
    return steps


def coming(log):
    """The list of all EVENTs in the order in which they can come, always the least one that can."""
    return least_first(befores_of(log))


def marked_coming(log):
    """The list of the marked EVENTs in the order in which they can come."""
    chosen = {event: True for event in marked(log)}
    return [event for event in coming(log) if event in chosen]
