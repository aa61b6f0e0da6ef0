"""One thread by itself: where it stands, what it makes next, and how it goes on.

Nothing here knows a memory. Whoever keeps one passes what an instruction reads,
and learns from the event what becomes of the memory.
"""

from everyweave.programs import LOCAL_SHAPES, REGISTERS, is_value

# The instructions that read a variable.
READERS = ("load", "swap", "fetch", "cas", "await")

MOST_STEPS = 8
MOST_LOCAL = 64
MOST_CHILDREN = 2
FIRST_CHILD = 4
FIRST_CHILDLESS = 12


class Thread:
    """A thread between two steps. Nobody changes it then: machines share it."""

    def __init__(self, number, code, argument):
        self.number = number
        self.code = code
        self.place = 0
        self.registers = [argument] + [0] * (REGISTERS - 1)
        self.steps = 0
        self.spawns = 0
        self.held = ()
        # The word that tells how it ended, or None.
        self.how = None


def begin(program, number, code, argument):
    """A new thread that has performed its local instructions up to the first visible one."""
    thread = Thread(number, code, argument)
    run_on(program, thread)
    return thread


def copy_thread(thread):
    other = Thread(thread.number, thread.code, 0)
    other.place = thread.place
    other.registers = list(thread.registers)
    other.steps = thread.steps
    other.spawns = thread.spawns
    other.held = thread.held
    other.how = thread.how
    return other


def is_cut(thread):
    # A thread that has not ended stands at a visible instruction.
    return thread.how is None and thread.steps == MOST_STEPS


def how_now(thread):
    if thread.how is not None:
        return thread.how
    return "cut" if is_cut(thread) else "waiting"


def rows_of(threads):
    """What an end tells of the threads, which stand in a dict by their numbers."""
    rows = [threads[number] for number in sorted(threads)]
    return tuple([(thread.number, how_now(thread), tuple(thread.registers)) for thread in rows])


def pending(program, thread):
    """The visible instruction that the thread comes to next, or None if it has ended or is cut."""
    if thread.how is not None or is_cut(thread):
        return None
    return program[2][thread.code][thread.place]


def run_on(program, thread):
    """Performs local instructions up to the next visible one, or until the thread ends."""
    code = program[2][thread.code]
    made = 0
    while thread.how is None and thread.place < len(code) and code[thread.place][0] in LOCAL_SHAPES:
        if made == MOST_LOCAL:
            thread.how = "loop"
        else:
            perform(thread, code[thread.place])
            made += 1
    if thread.how is not None:
        return
    if thread.place == len(code):
        thread.how = "finished"
    elif not is_cut(thread):
        thread.how = failure(thread, code[thread.place])


def failure(thread, instruction):
    """The word with which the thread fails when it comes to a visible instruction, or None."""
    word = instruction[0]
    if word == "unlock" and instruction[1] not in thread.held:
        return "held"
    if word == "spawn" and (thread.number >= FIRST_CHILDLESS or thread.spawns == MOST_CHILDREN):
        return "spawn"
    return None


def perform(thread, instruction):
    """Performs one local instruction."""
    word = instruction[0]
    thread.place += 1
    if word == "stop":
        thread.how = "finished"
    elif word == "jump":
        thread.place = instruction[1]
    elif word == "branch":
        if thread.registers[instruction[1]] != 0:
            thread.place = instruction[2]
    elif word == "assert":
        if thread.registers[instruction[1]] == 0:
            thread.how = "assert"
    else:
        result = computed(thread.registers, instruction)
        if is_value(result):
            thread.registers[instruction[1]] = result
        else:
            thread.how = "range"


def computed(registers, instruction):
    """What a local instruction computes for its register, whether it is a value or not."""
    word = instruction[0]
    if word == "const":
        return instruction[2]
    if word == "copy":
        return registers[instruction[2]]
    left = registers[instruction[2]]
    right = registers[instruction[3]]
    if word == "add":
        return left + right
    if word == "sub":
        return left - right
    if word == "mul":
        return left * right
    if word == "eq":
        return 1 if left == right else 0
    return 1 if left < right else 0


def event_of(thread, instruction, value):
    """The event of the thread that performs a visible instruction, with the sequential kinds.

    The value is what it reads of its variable; it is not used if the instruction reads none.
    """
    word = instruction[0]
    if word in ("load", "await"):
        told = (word, instruction[2], value, None)
    elif word in ("swap", "fetch", "cas"):
        told = update_of(thread.registers, instruction, value)
    elif word == "store":
        told = (word, instruction[1], None, thread.registers[instruction[2]])
    elif word in ("lock", "unlock"):
        told = (word, instruction[1], None, None)
    elif word == "spawn":
        child = FIRST_CHILD + MOST_CHILDREN * thread.number + thread.spawns
        told = (word, child, None, thread.registers[instruction[3]])
    elif word == "join":
        told = (word, thread.registers[instruction[1]], None, None)
    else:
        told = (word, None, None, None)
    return (thread.number, thread.steps, *told)


def update_of(registers, instruction, value):
    """The kind, object, got and put of an instruction that reads and writes in one step."""
    variable = instruction[2]
    operand = registers[instruction[3]]
    if instruction[0] == "swap":
        return ("update", variable, value, operand)
    if instruction[0] == "fetch":
        if is_value(value + operand):
            return ("update", variable, value, value + operand)
        return ("miss", variable, value, None)
    if value == operand:
        return ("update", variable, value, registers[instruction[4]])
    return ("miss", variable, value, None)


def advance(program, thread, event):
    """The thread behind this event of it, which its next visible instruction has made."""
    kind, named, got = event[2:5]
    instruction = pending(program, thread)
    word = instruction[0]
    after = copy_thread(thread)
    after.place += 1
    after.steps += 1
    if word in ("load", "swap", "fetch"):
        after.registers[instruction[1]] = got
    elif word == "cas":
        after.registers[instruction[1]] = 1 if kind == "update" else 0
    elif word == "await":
        after.registers[instruction[1]] = 1
    elif word == "spawn":
        after.registers[instruction[1]] = named
        after.spawns += 1
    elif word == "lock":
        after.held = (*thread.held, named)
    elif word == "unlock":
        after.held = tuple([lock for lock in thread.held if lock != named])
    if word == "fetch" and kind == "miss":
        after.how = "range"
    else:
        run_on(program, after)
    return after
