"""Runs: what a schedule plays, which events touch, and the order that alike runs share."""

from everyweave.errors import BadArgument, TooLarge
from everyweave.machine import Machine

MOST_PLAYED = 3000

# The kinds of events that access a variable in the memory, and those of them that change it.
ACCESSES = ("load", "store", "flush", "update", "miss", "await")
CHANGES = ("store", "flush", "update")

# The kinds of events that a thread makes only while its own buffer is empty.
EMPTY_HANDED = ("update", "miss", "fence", "lock", "unlock", "spawn", "join")


class Run:
    """What a schedule plays from the first state: its events, their order, and the last state."""

    def __init__(self, program, memory, schedule):
        machine = Machine(program, memory)
        self.program = program
        self.memory = memory
        self.schedule = list(schedule)
        self.events = [machine.step(agent) for agent in schedule]
        self.pairs = pairs_of(self.events)
        # The bit i of pasts[j] tells that the event i is the event j or comes before it.
        self.pasts = []
        for j in range(len(self.events)):
            self.pasts.append(past_of(self, j))
        self._whole = len(machine.able()) == 0
        self._end = machine.end()

    @property
    def whole(self):
        """True if no agent can make a step in the last state."""
        return self._whole

    def end(self):
        """The threads, the values and the locks in the last state."""
        return self._end


def pairs_of(events):
    """For each event the number of the pair that it puts in a buffer, reads there or takes out, or None."""
    puts = {}
    latest = {}
    pairs = []
    for event in events:
        agent, number, kind, named = event[:4]
        pair = None
        if kind == "flush":
            pair = number
        elif kind == "buffer":
            pair = puts.get(agent, 0)
            puts[agent] = pair + 1
            latest[(agent, named)] = pair
        elif kind in ("own", "ownawait"):
            pair = latest[(agent, named)]
        pairs.append(pair)
    return pairs


def past_of(run, j):
    """The bits of the event with the index j and of those that come before it."""
    past = 1 << j
    left = past - 1
    while left > 0:
        i = left.bit_length() - 1
        if events_touch(run, i, j):
            past |= run.pasts[i]
            # What comes before i comes before j through it, and need not be looked at.
            left &= ~run.pasts[i]
        else:
            left -= 1 << i
    return past


def events_touch(run, i, j):
    """True if the event with the index i touches the later one with the index j."""
    first = run.events[i]
    later = run.events[j]
    if first[0] == later[0] or contend(first, later):
        return True
    if names_thread_of(first, later) or names_thread_of(later, first):
        return True
    # Nothing else touches but events of a thread and events of its own buffer.
    if first[0] != -later[0] - 1:
        return False
    if later[2] == "flush":
        return run.pairs[i] == run.pairs[j]
    return later[2] in EMPTY_HANDED


def contend(first, later):
    """True for events of one variable in the memory, one lock or one spawned thread that touch by it."""
    if first[3] != later[3]:
        return False
    if first[2] in ACCESSES and later[2] in ACCESSES:
        return first[2] in CHANGES or later[2] in CHANGES
    if first[2] in ("lock", "unlock"):
        return later[2] in ("lock", "unlock")
    # No thread is joined before it is spawned.
    return first[2] == "spawn" and later[2] == "join"


def names_thread_of(event, other):
    """True for a spawn or a join of the thread that made the other event, itself or by its buffer."""
    if event[2] not in ("spawn", "join"):
        return False
    return other[0] == event[3] or other[0] == -event[3] - 1


def check_index(run, index):
    if index < 0 or index >= len(run.events):
        raise BadArgument(f"the run has no event with the index {index}")


def touching(run, i, j):
    """True if the event with the index i touches the later one with the index j."""
    check_index(run, i)
    check_index(run, j)
    if i >= j:
        raise BadArgument("the first event must be the earlier one")
    return events_touch(run, i, j)


def before(run, i, j):
    """True if the event with the index i comes before the one with the index j."""
    check_index(run, i)
    check_index(run, j)
    return i != j and comes_to(run, i, j)


def comes_to(run, i, j):
    """True if the event with the index i is the one with the index j or comes before it."""
    return (run.pasts[j] >> i) & 1 == 1


def clocks(run):
    """The list of the clocks of the events: how far each agent has come before an event and with it."""
    found = []
    for j in range(len(run.events)):
        clock = {}
        for i in range(j + 1):
            if comes_to(run, i, j):
                agent, number = run.events[i][:2]
                clock[agent] = number + 1
        found.append(clock)
    return found


def normal_form(run):
    """The least schedule of the class of the run."""
    # The last row of an agent is the index of its next event.
    rows = {}
    for j in reversed(range(len(run.schedule))):
        rows.setdefault(run.schedule[j], []).append(j)
    schedule = []
    done = 0
    while len(rows) > 0:
        least = min([agent for agent in rows if is_next(run, rows[agent][-1], done)])
        done |= 1 << rows[least].pop()
        if len(rows[least]) == 0:
            del rows[least]
        schedule.append(least)
    return schedule


def is_next(run, j, done):
    """True if all that comes before the event with the index j is among the bits of what is done."""
    return (run.pasts[j] & ~done) == 1 << j


def alike(first, second):
    """True if two runs of the same program and memory are alike."""
    if first.program != second.program or first.memory != second.memory:
        return False
    return normal_form(first) == normal_form(second)


def all_runs(program, memory):
    """The ascending list of the normal forms of all whole runs, by trying every schedule."""
    forms = {}
    for schedule in whole_schedules(Machine(program, memory)):
        forms[tuple(normal_form(Run(program, memory, schedule)))] = True
    return [list(form) for form in sorted(forms)]


def whole_schedules(first):
    """The schedules of all whole runs from the first state."""
    found = []
    played = 0
    waiting = [(first, ())]
    while len(waiting) > 0:
        machine, schedule = waiting.pop()
        played += 1
        if played > MOST_PLAYED:
            raise TooLarge(f"more than {MOST_PLAYED} states would be played")
        agents = machine.able()
        if len(agents) == 0:
            found.append(schedule)
        for agent in agents:
            twin = machine.twin()
            twin.step(agent)
            waiting.append((twin, (*schedule, agent)))
    return found
