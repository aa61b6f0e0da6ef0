"""The explorer: one run of every class, found by turning the runs that it has."""

from everyweave.errors import BadArgument, BadSchedule, TooLarge
from everyweave.machine import Machine
from everyweave.runs import Run, check_index, comes_to, normal_form

MOST_CLASSES = 300


def initials(run):
    """The ascending list of the agents of the events that no other event comes before."""
    return sorted([agent for j, agent in enumerate(run.schedule) if run.pasts[j] == 1 << j])


def rest_of(run, i):
    """The indexes of the other events that the event with the index i does not come before."""
    return [j for j in range(len(run.events)) if not comes_to(run, i, j)]


def behind_rest(machine, run, i):
    """A machine behind the rest for the event with the index i; the one that is passed stands before this event."""
    behind = machine.twin()
    for j in range(i, len(run.events)):
        if not comes_to(run, i, j):
            behind.step(run.schedule[j])
    return behind


def turnings(run):
    """The ascending list of the turnings of the run."""
    found = []
    machine = Machine(run.program, run.memory)
    for i, agent in enumerate(run.schedule):
        behind = behind_rest(machine, run, i)
        found.extend([(i, other) for other in behind.able() if other != agent])
        machine.step(agent)
    return found


def turned(run, i, agent):
    """The schedule that leaves out the event with the index i and what it comes before, and takes the agent."""
    check_index(run, i)
    schedule = [run.schedule[j] for j in rest_of(run, i)]
    behind = Machine(run.program, run.memory)
    for other in schedule:
        behind.step(other)
    if agent == run.schedule[i] or behind.label(agent) is None:
        raise BadArgument(f"the agent {agent} and the index {i} are no turning of the run")
    return schedule + [agent]


class Woven:
    """A run that the explorer has found, and its events as bits that mean the same in all its runs."""

    def __init__(self, run, bits, ahead):
        self.run = run
        self.bits = bits
        # The bits of what comes before an event, by the agent and the number of the event.
        self.ahead = ahead
        self.mask = sum(bits)


class Explorer:
    """Finds one run of every class of whole runs.

    An event together with all that comes before it is one bit, in whatever run it occurs. So what
    a schedule plays is a mask of bits, and a run is alike to one that begins with the schedule
    exactly if it has all bits of the mask.
    """

    def __init__(self, program, memory):
        self.first = Machine(program, memory)
        self.wovens = []
        self.known = {}
        self.rests = {}

    def explore(self):
        """Finds the runs and returns the list of them."""
        self._play(self.first.twin(), [])
        turned_runs = 0
        while turned_runs < len(self.wovens):
            self._turn(self.wovens[turned_runs])
            turned_runs += 1
        return [woven.run for woven in self.wovens]

    def _play(self, machine, schedule):
        """Takes up a run that begins with the schedule, behind which the machine stands."""
        if len(self.wovens) == MOST_CLASSES:
            raise TooLarge(f"there are more than {MOST_CLASSES} classes of whole runs")
        run = Run(machine.program, machine.memory, schedule + play_on(machine))
        self.wovens.append(self._weave(run))

    def _weave(self, run):
        bits = []
        ahead = {}
        for j, event in enumerate(run.events):
            past = sum([bits[i] for i in range(j) if comes_to(run, i, j)])
            ahead[event[:2]] = past
            bits.append(self.known.setdefault((event, past), 1 << len(self.known)))
        return Woven(run, bits, ahead)

    def _turn(self, woven):
        """Plays what begins with a turned schedule of the run, for the rests that are new."""
        run = woven.run
        machine = self.first.twin()
        for i, agent in enumerate(run.schedule):
            if may_turn(run, i):
                rest = rest_of(run, i)
                mask = sum([woven.bits[j] for j in rest])
                # What goes on behind a rest is the same whatever run it is the rest of.
                if mask not in self.rests:
                    self.rests[mask] = True
                    self._go_on(behind_rest(machine, run, i), [run.schedule[j] for j in rest], mask)
            machine.step(agent)

    def _go_on(self, machine, schedule, mask):
        """Plays a run for each agent that can go on from the machine, unless one is known."""
        for agent in machine.able():
            if not self._is_covered(mask, machine.label(agent)[:2]):
                twin = machine.twin()
                twin.step(agent)
                self._play(twin, schedule + [agent])

    def _is_covered(self, mask, place):
        """True if a known run is alike to one that begins with the mask and then with the event at the place.

        The place is the agent of the event and its number. If all that comes before the event in a
        run with the mask is in the mask, then it is the event that the agent makes behind the mask.
        """
        for woven in self.wovens:
            if mask & ~woven.mask == 0 and place in woven.ahead and woven.ahead[place] & ~mask == 0:
                return True
        return False


def may_turn(run, i):
    """False if no turning of the whole run at the event with the index i is possible."""
    # Behind the rest another agent goes on only with what the event comes before, or where it waits at last.
    agent = run.schedule[i]
    for j in range(i + 1, len(run.events)):
        if run.schedule[j] != agent and comes_to(run, i, j):
            return True
    return "waiting" in [row[1] for row in run.end()[0]]


def play_on(machine):
    """Plays until no agent can make a step, and returns the agents."""
    schedule = []
    agents = machine.able()
    while len(agents) > 0:
        for agent in agents:
            while machine.label(agent) is not None:
                machine.step(agent)
                schedule.append(agent)
        agents = machine.able()
    return schedule


def count_beginnings(schedules):
    """How many different lists that are not empty some of the schedules begin with."""
    many = 0
    last = []
    for schedule in sorted(schedules):
        many += len(schedule) - count_shared(last, schedule)
        last = schedule
    return many


def count_shared(first, second):
    """How many agents two schedules have in common from their beginning on."""
    shared = 0
    for agent, other in zip(first, second):
        if agent != other:
            break
        shared += 1
    return shared


def explore(program, memory):
    """A schedule of each class of whole runs, and how many steps they have together."""
    schedules = [list(run.schedule) for run in Explorer(program, memory).explore()]
    return (schedules, count_beginnings(schedules))


def is_paper(program, memory, schedules):
    """True if the list has exactly one schedule of each class of whole runs."""
    explorer = Explorer(program, memory)
    if not is_list_of_schedules(schedules):
        return False
    runs = explorer.explore()
    if len(schedules) != len(runs):
        return False
    missing = {tuple(normal_form(run)): True for run in runs}
    for schedule in schedules:
        form = whole_form(program, memory, schedule)
        if form not in missing:
            return False
        del missing[form]
    return True


def is_list_of_schedules(schedules):
    """True for a list of lists of integers."""
    if type(schedules) is not list:
        return False
    for schedule in schedules:
        if type(schedule) is not list:
            return False
        for agent in schedule:
            if type(agent) is not int:
                return False
    return True


def whole_form(program, memory, schedule):
    """The normal form of the whole run that the schedule plays, as a tuple, or None if there is none."""
    try:
        run = Run(program, memory, schedule)
    except BadSchedule:
        return None
    return tuple(normal_form(run)) if run.whole else None
