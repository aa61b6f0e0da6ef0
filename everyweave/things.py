"""What is told of a program: what holds in some state, the ends, and the shortest ways there."""

from everyweave.errors import BadArgument, TooLarge
from everyweave.machine import Machine
from everyweave.programs import REGISTERS, is_integer, is_row, is_value

MOST_STATES = 3000
GREATEST_NUMBER = 27

FAILURES = ("assert", "range", "loop", "held", "spawn")
HOWS = ("finished", "cut", "waiting", "assert", "range", "loop", "held", "spawn")

# The kinds of events that access a plain variable, with both memories, and those that are stores.
PLAIN_ACCESSES = ("load", "own", "store", "buffer")
STORES = ("store", "buffer")


def reached(first):
    """All states from the first one on, each as a machine and the least of the shortest schedules to it."""
    found = [(first, ())]
    seen = set()
    seen.add(first.state())
    looked_at = 0
    # Schedules stand here by length, and those of one length ascend, so the first to a state is the one.
    while looked_at < len(found):
        machine, schedule = found[looked_at]
        looked_at += 1
        for agent in machine.able():
            twin = machine.twin()
            twin.step(agent)
            state = twin.state()
            if state not in seen:
                if len(found) == MOST_STATES:
                    raise TooLarge(f"there are more than {MOST_STATES} states")
                seen.add(state)
                found.append((twin, (*schedule, agent)))
    return found


def things_of(machine):
    """The told things other than ends that hold in the state of the machine."""
    still = len(machine.able()) == 0
    return races_of(machine) + told_of_threads(machine.end()[0], still)


def told_of_threads(rows, still):
    """What the threads of an end tell; it is still if nothing goes on."""
    told = []
    waits = False
    for number, how, _ in rows:
        if how == "cut":
            told.append(("cut", number))
        elif how == "waiting":
            waits = True
        elif how in FAILURES:
            told.append(("failed", number, how))
    if waits and still:
        told.append(("standstill",))
    return told


def races_of(machine):
    """The races of the threads that come next to a load or a store of a plain variable."""
    accesses = []
    for row in machine.end()[0]:
        event = machine.label(row[0])
        if event is not None and event[2] in PLAIN_ACCESSES and machine.program[0][event[3]][1]:
            accesses.append((row[0], event[3], event[2] in STORES))
    told = []
    for at, (number, variable, stores) in enumerate(accesses):
        for other, same, also_stores in accesses[at + 1:]:
            if variable == same and (stores or also_stores):
                told.append(("race", variable, number, other))
    return told


def holds(machine, thing):
    """True if the told thing holds in the state of the machine."""
    if thing[0] == "end":
        return len(machine.able()) == 0 and machine.end() == thing[1]
    return thing in things_of(machine)


def end_order(end):
    """What ends are sorted by: a lock that is free comes before one that is held."""
    threads, values, holders = end
    return (threads, values, tuple([-1 if holder is None else holder for holder in holders]))


def things(program, memory):
    """The ascending list of the told things other than ends that hold in some state."""
    told = {}
    for machine, _ in reached(Machine(program, memory)):
        for thing in things_of(machine):
            told[thing] = True
    return sorted(told)


def ends(program, memory):
    """The ascending list of the ends of all whole runs."""
    found = {}
    for machine, _ in reached(Machine(program, memory)):
        if len(machine.able()) == 0:
            found[machine.end()] = True
    return sorted(found, key=end_order)


def shortest(program, memory, thing):
    """The least of the shortest schedules behind which the told thing holds, or None."""
    first = Machine(program, memory)
    if not is_told_thing(program, thing):
        raise BadArgument("this is no told thing")
    for machine, schedule in reached(first):
        if holds(machine, thing):
            return list(schedule)
    return None


def is_told_thing(program, thing):
    """True for a tuple of the form of a told thing, whether it holds anywhere or not."""
    if type(thing) is not tuple or len(thing) == 0:
        return False
    word = thing[0]
    if word == "failed":
        return len(thing) == 3 and is_number(thing[1]) and thing[2] in FAILURES
    if word == "cut":
        return len(thing) == 2 and is_number(thing[1])
    if word == "standstill":
        return len(thing) == 1
    if word == "race":
        return len(thing) == 4 and is_race(program, thing[1], thing[2], thing[3])
    return word == "end" and len(thing) == 2 and is_end(program, thing[1])


def is_number(number):
    """True for what may be the number of a thread, whether there is such a thread or not."""
    return is_integer(number, 0, GREATEST_NUMBER)


def is_race(program, variable, number, other):
    """True for a plain variable and two different threads in ascending order."""
    variables = program[0]
    if not is_integer(variable, 0, len(variables) - 1) or not variables[variable][1]:
        return False
    return is_number(number) and is_number(other) and number < other


def is_end(program, end):
    """True for a tuple of the form of an end, with as many values and locks as the program has."""
    if not is_row(end, 3, 3):
        return False
    threads, values, holders = end
    if not is_row(values, len(program[0]), len(program[0])) or not is_row(holders, program[1], program[1]):
        return False
    if not all([is_value(value) for value in values]):
        return False
    return all([holder is None or is_number(holder) for holder in holders]) and are_threads(threads)


def are_threads(threads):
    """True for a tuple of threads as an end tells them: ascending, each as it stands and with its registers."""
    if type(threads) is not tuple:
        return False
    least = 0
    for thread in threads:
        if not is_row(thread, 3, 3):
            return False
        number, how, registers = thread
        if not is_integer(number, least, GREATEST_NUMBER) or how not in HOWS:
            return False
        if not is_row(registers, REGISTERS, REGISTERS) or not all([is_value(value) for value in registers]):
            return False
        least = number + 1
    return True
