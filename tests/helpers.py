"""What the tests share: short ways to write programs and to play them."""

from everyweave.machine import Machine
from everyweave.runs import Run, touching

MEMORIES = ("sequential", "buffers")


def make_program(*codes, variables=(), locks=0, threads=None):
    """A program; without threads, each code is run by one thread with the argument 0."""
    if threads is None:
        threads = tuple((index, 0) for index in range(len(codes)))
    return (tuple(variables), locks, tuple(tuple(code) for code in codes), tuple(threads))


def shared(*firsts):
    return tuple((first, False) for first in firsts)


def machine_behind(program, memory, schedule):
    machine = Machine(program, memory)
    for agent in schedule:
        machine.step(agent)
    return machine


def events_of(program, memory, schedule):
    machine = Machine(program, memory)
    return [machine.step(agent) for agent in schedule]


def row_of(machine, number):
    """How the thread with the number stands, and its registers."""
    for thread, how, registers in machine.end()[0]:
        if thread == number:
            return (how, registers)
    return None


def all_states(program, memory):
    """A dict from every state that can be reached to a machine in it."""
    first = Machine(program, memory)
    found = {first.state(): first}
    waiting = [first]
    while waiting:
        machine = waiting.pop()
        for agent in machine.able():
            twin = machine.twin()
            twin.step(agent)
            if twin.state() not in found:
                found[twin.state()] = twin
                waiting.append(twin)
    return found


def played_machines(program, memory):
    """A dict from every schedule that can be played, as a tuple, to the machine behind it."""
    found = {}
    waiting = [((), Machine(program, memory))]
    while waiting:
        schedule, machine = waiting.pop()
        found[schedule] = machine
        for agent in machine.able():
            twin = machine.twin()
            twin.step(agent)
            waiting.append(((*schedule, agent), twin))
    return found


def whole_schedules(program, memory):
    """The ascending list of the schedules, as tuples, of all whole runs."""
    found = played_machines(program, memory)
    return sorted(schedule for schedule, machine in found.items() if not machine.able())


def exchanged(run):
    """The schedules that are made of the run's by exchanging neighbouring events that do not touch."""
    found = {tuple(run.schedule)}
    waiting = [run]
    while waiting:
        now = waiting.pop()
        for i in range(len(now.schedule) - 1):
            if not touching(now, i, i + 1):
                other = list(now.schedule)
                other[i:i + 2] = [other[i + 1], other[i]]
                if tuple(other) not in found:
                    found.add(tuple(other))
                    waiting.append(Run(run.program, run.memory, other))
    return found


def classes_of(program, memory):
    """The classes of all whole runs, as sets of schedules, by exchanging alone."""
    left = set(whole_schedules(program, memory))
    found = []
    while left:
        one = exchanged(Run(program, memory, min(left)))
        found.append(one)
        left -= one
    return found
