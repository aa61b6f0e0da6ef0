"""What the tests share: short ways to write programs and to play them."""

from everyweave.machine import Machine

MEMORIES = ("sequential", "buffers")


def make_program(*codes, variables=(), locks=0, threads=None):
    """A program; without threads, each code is run by one thread with the argument 0."""
    if threads is None:
        threads = tuple((index, 0) for index in range(len(codes)))
    return (tuple(variables), locks, tuple(tuple(code) for code in codes), tuple(threads))


def shared(*firsts):
    return tuple((first, False) for first in firsts)


def machine_behind(program, memory, schedule):
    machine = Machine(program, memory)
    for agent in schedule:
        machine.step(agent)
    return machine


def events_of(program, memory, schedule):
    machine = Machine(program, memory)
    return [machine.step(agent) for agent in schedule]


def row_of(machine, number):
    """How the thread with the number stands, and its registers."""
    for thread, how, registers in machine.end()[0]:
        if thread == number:
            return (how, registers)
    return None


def all_states(program, memory):
    """A dict from every state that can be reached to a machine in it."""
    first = Machine(program, memory)
    found = {first.state(): first}
    waiting = [first]
    while waiting:
        machine = waiting.pop()
        for agent in machine.able():
            twin = machine.twin()
            twin.step(agent)
            if twin.state() not in found:
                found[twin.state()] = twin
                waiting.append(twin)
    return found
