"""A book that goes along with a log, with messages that are under way."""

from fewstamps.carry import above, surely
from fewstamps.data import aheads_of
from fewstamps.errors import Early, InOrder, NoCounter, NoEvent, NoMachine, NoMessage, NotBehind, SameMachine
from fewstamps.shape import raised_by
from fewstamps.told import tells_now


class Book:
    """A log so far, its COUNTERS, what each MACHINE knows of these, and the messages that were sent."""

    def __init__(self, names, in_order=False):
        self._names = tuple(names)
        self._in_order = in_order
        # All EVENTs, the marked ones, and the messages that came, as they were done.
        self._done = []
        self._marked = []
        self._came = []
        self._rows = []
        # For each MACHINE how many EVENTs it has, and its number for each counter.
        self._sizes = {name: 0 for name in self._names}
        self._numbers = {name: [] for name in self._names}
        # For each message that was sent the EVENT, the MACHINE that it goes to, and its ENTRYs.
        self._sent = []
        self._under_way = []

    def _need_machine(self, name):
        """Raises NoMachine if there is none with this name."""
        if name not in self._sizes:
            raise NoMachine(name)

    def _need_counter(self, name, counter):
        """Raises NoCounter, or NotBehind if the MACHINE's next EVENT cannot be on this counter."""
        if not 0 <= counter <= len(self._rows):
            raise NoCounter(counter)
        # A MACHINE that knows of all EVENTs of a counter has its last one ahead of what it does now.
        if counter < len(self._rows) and self._numbers[name][counter] < len(self._rows[counter]):
            raise NotBehind(counter)

    def _go(self, name):
        """One EVENT more of this MACHINE; returns it."""
        event = (name, self._sizes[name])
        self._sizes[name] += 1
        self._done.append(event)
        return event

    def happen(self, name):
        """One EVENT more of this MACHINE, not marked; returns it; raises NoMachine."""
        self._need_machine(name)
        return self._go(name)

    def mark(self, name, counter):
        """One EVENT more, marked, on this counter, or on none; returns it.

        Raises NoMachine, NoCounter, NotBehind.
        """
        self._need_machine(name)
        if counter is not None:
            self._need_counter(name, counter)
        event = self._go(name)
        self._marked.append(event)
        if counter is not None:
            self._put(event, counter)
        return event

    def _put(self, event, counter):
        """Puts the last EVENT of a MACHINE on this counter, which may be a new one."""
        if counter == len(self._rows):
            self._rows.append([])
            for name in self._names:
                self._numbers[name].append(0)
        self._rows[counter].append(event)
        self._numbers[event[0]][counter] = len(self._rows[counter])

    def send(self, name, other):
        """A message from the last EVENT of the one MACHINE to the other one; returns its number.

        Raises NoMachine, SameMachine, NoEvent.
        """
        self._need_machine(name)
        self._need_machine(other)
        if name == other:
            raise SameMachine(name)
        if self._sizes[name] == 0:
            raise NoEvent((name, 0))
        sent = (name, self._sizes[name] - 1)
        number = len(self._sent)
        self._sent.append((sent, other, self._to_carry(sent, other)))
        self._under_way.append(number)
        return number

    def _to_carry(self, sent, other):
        """The ENTRYs that a message must carry from the last EVENT of a MACHINE to the other MACHINE."""
        # In order none is lost: so all that were sent earlier have come by then.
        earlier = self._sent if self._in_order else []
        senders = [one for one, goal, _ in earlier if one[0] == sent[0] and goal == other]
        return above(self.known(sent[0]), surely(self.log(), self.counters(), sent, other, senders))

    def come(self, number):
        """The message comes to one EVENT more, not marked, of its MACHINE; returns this; raises NoMessage, Early."""
        self._need_under_way(number)
        sent, other, entries = self._sent[number]
        if self._in_order:
            self._need_first(number)
        self._under_way.remove(number)
        event = self._go(other)
        self._came.append((sent, event))
        for counter, known in entries:
            self._numbers[other][counter] = max(self._numbers[other][counter], known)
        return event

    def _need_under_way(self, number):
        """Raises NoMessage if the message is not under way."""
        if number not in self._under_way:
            raise NoMessage(number)

    def _need_first(self, number):
        """Raises Early if messages between the same MACHINEs that were sent ahead are under way."""
        sent, other, _ = self._sent[number]
        for one in self._under_way:
            far, goal, _ = self._sent[one]
            if one < number and (far[0], goal) == (sent[0], other):
                raise Early(one)

    def lose(self, number):
        """The message never comes; raises NoMessage, then InOrder."""
        self._need_under_way(number)
        if self._in_order:
            raise InOrder()
        self._under_way.remove(number)

    def log(self):
        """The LOG so far: all EVENTs, and the messages that came."""
        machines = []
        for name in self._names:
            marks = tuple([number for one, number in self._marked if one == name])
            machines.append((name, self._sizes[name], marks))
        return tuple(machines), tuple(sorted(self._came))

    def counters(self):
        """The COUNTERS so far."""
        return tuple([tuple(row) for row in self._rows])

    def known(self, name):
        """The numbers that the MACHINE has now; raises NoMachine."""
        self._need_machine(name)
        return tuple(self._numbers[name])

    def under_way(self):
        """The ascending list of the numbers of the messages that are under way."""
        return list(self._under_way)

    def entries(self, number):
        """The ascending tuple of the ENTRYs that the message carried; raises NoMessage."""
        if not 0 <= number < len(self._sent):
            raise NoMessage(number)
        return self._sent[number][2]

    def tells(self, one, other):
        """What the SHEET tells now of the pair; raises NoEvent."""
        return tells_now(self.log(), self.counters(), one, other)

    def raised(self):
        """The list of (event, i) for the marked EVENTs as they were done: by which gain grew as it came."""
        return raised_by(aheads_of(self.log()), self._marked)

    def twin(self):
        """A Book in the same state that shares nothing with this one."""
        other = Book(self._names, self._in_order)
        other._done = list(self._done)
        other._marked = list(self._marked)
        other._came = list(self._came)
        other._rows = [list(row) for row in self._rows]
        other._sizes = {name: self._sizes[name] for name in self._names}
        other._numbers = {name: list(self._numbers[name]) for name in self._names}
        other._sent = list(self._sent)
        other._under_way = list(self._under_way)
        return other

    def __iter__(self):
        return iter(self._done)

    def __len__(self):
        return len(self._done)
