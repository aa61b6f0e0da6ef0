"""What the tests share: short ways to write programs, to play them, and to grow their graphs."""

from itertools import combinations

from everyweave.graphs import empty_graph, growths
from everyweave.machine import Machine
from everyweave.runs import Run, touching

MEMORIES = ("sequential", "buffers")
WORDS = ("assert", "range", "loop", "held", "spawn")


def make_program(*codes, variables=(), locks=0, threads=None):
    """A program; without threads, each code is run by one thread with the argument 0."""
    if threads is None:
        threads = tuple((index, 0) for index in range(len(codes)))
    return (tuple(variables), locks, tuple(tuple(code) for code in codes), tuple(threads))


def shared(*firsts):
    return tuple((first, False) for first in firsts)


def machine_behind(program, memory, schedule):
    machine = Machine(program, memory)
    for agent in schedule:
        machine.step(agent)
    return machine


def events_of(program, memory, schedule):
    machine = Machine(program, memory)
    return [machine.step(agent) for agent in schedule]


def row_of(machine, number):
    """How the thread with the number stands, and its registers."""
    for thread, how, registers in machine.end()[0]:
        if thread == number:
            return (how, registers)
    return None


def all_states(program, memory):
    """A dict from every state that can be reached to a machine in it."""
    first = Machine(program, memory)
    found = {first.state(): first}
    waiting = [first]
    while waiting:
        machine = waiting.pop()
        for agent in machine.able():
            twin = machine.twin()
            twin.step(agent)
            if twin.state() not in found:
                found[twin.state()] = twin
                waiting.append(twin)
    return found


def told_in(program, machine):
    """The told things, ends included, that hold in the state of the machine."""
    rows = machine.end()[0]
    told = [("failed", number, how) for number, how, _ in rows if how in WORDS]
    told += [("cut", number) for number, how, _ in rows if how == "cut"]
    if not machine.able():
        told.append(("end", machine.end()))
        if "waiting" in [how for _, how, _ in rows]:
            told.append(("standstill",))
    for first, second in combinations([row[0] for row in rows], 2):
        events = [machine.label(first), machine.label(second)]
        if None in events or events[0][3] != events[1][3]:
            continue
        kinds = {event[2] for event in events}
        if kinds <= {"load", "own", "store", "buffer"} and kinds & {"store", "buffer"}:
            if program[0][events[0][3]][1]:
                told.append(("race", events[0][3], first, second))
    return told


def played_machines(program, memory):
    """A dict from every schedule that can be played, as a tuple, to the machine behind it."""
    found = {}
    waiting = [((), Machine(program, memory))]
    while waiting:
        schedule, machine = waiting.pop()
        found[schedule] = machine
        for agent in machine.able():
            twin = machine.twin()
            twin.step(agent)
            waiting.append(((*schedule, agent), twin))
    return found


def whole_schedules(program, memory):
    """The ascending list of the schedules, as tuples, of all whole runs."""
    found = played_machines(program, memory)
    return sorted(schedule for schedule, machine in found.items() if not machine.able())


def exchanged(run):
    """The schedules that are made of the run's by exchanging neighbouring events that do not touch."""
    found = {tuple(run.schedule)}
    waiting = [run]
    while waiting:
        now = waiting.pop()
        for i in range(len(now.schedule) - 1):
            if not touching(now, i, i + 1):
                other = list(now.schedule)
                other[i:i + 2] = [other[i + 1], other[i]]
                if tuple(other) not in found:
                    found.add(tuple(other))
                    waiting.append(Run(run.program, run.memory, other))
    return found


def classes_of(program, memory):
    """The classes of all whole runs, as sets of schedules, by exchanging alone."""
    left = set(whole_schedules(program, memory))
    found = []
    while left:
        one = exchanged(Run(program, memory, min(left)))
        found.append(one)
        left -= one
    return found


def grow_one(program, graph, choice):
    """The only graph that grows by this choice.

    It is a thread, or a thread with the writer that it reads (None for the first value), or with
    its place in the order of the variable.
    """
    thread, *rest = choice if isinstance(choice, tuple) else (choice,)
    known = set(graph[0])
    found = []
    for other in growths(program, graph):
        (event,) = [event for event in other[0] if event not in known]
        if event[0] != thread:
            continue
        if not rest or (rest[0] in of_new_event(other, event, isinstance(rest[0], int))):
            found.append(other)
    if len(found) != 1:
        raise AssertionError(f"{choice} fits {len(found)} growths")
    return found[0]


def of_new_event(graph, event, wants_place):
    """A list with the place of the event in the order of its variable, or with its writer, if there is one."""
    if wants_place:
        return [graph[2][event[3]].index(event[:2])]
    return [writer for reader, writer in graph[1] if reader == event[:2]]


def build(program, *choices):
    """The graph that the empty graph grows to by the choices, one after the other."""
    graph = empty_graph(program)
    for choice in choices:
        graph = grow_one(program, graph, choice)
    return graph


def new_events(program, graph, thread):
    """The events of the thread, in ascending order, by which the graph grows, with their writers."""
    found = []
    for other in growths(program, graph):
        (event,) = set(other[0]) - set(graph[0])
        if event[0] == thread:
            found.append((event[2:], *of_new_event(other, event, False)))
    return found


def reached_graphs(program):
    """The set of all graphs that the empty graph grows to, by the program's growths."""
    found = {empty_graph(program)}
    waiting = list(found)
    while waiting:
        for other in growths(program, waiting.pop()):
            if other not in found:
                found.add(other)
                waiting.append(other)
    return found
