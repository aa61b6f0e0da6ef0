"""The sequential memory and the one with store buffers, played step by step."""

from everyweave.errors import BadArgument, BadSchedule
from everyweave.programs import check_program
from everyweave.threads import READERS, advance, begin, event_of, pending, rows_of

MEMORIES = ("sequential", "buffers")

# The instructions that a thread performs whatever its buffer holds.
BUFFERED = ("load", "store", "await")


class Machine:
    """A program in a state of a memory, the first one when the machine is created."""

    def __init__(self, program, memory):
        check_program(program)
        if memory not in MEMORIES:
            raise BadArgument("a memory is sequential or buffers")
        self.program = program
        self.memory = memory
        self.variables = [first for first, _ in program[0]]
        self.holders = [None] * program[1]
        self.threads = {}
        # With the sequential memory every buffer stays empty, so one set of rules serves both.
        self.buffers = {}
        self.flushes = {}
        for number, (code, argument) in enumerate(program[3]):
            self._begin_thread(number, code, argument)

    def able(self):
        """The ascending list of the agents that can make a step."""
        numbers = sorted(self.threads)
        agents = [-number - 1 for number in reversed(numbers)] + numbers
        return [agent for agent in agents if self.label(agent) is not None]

    def step(self, agent):
        """Makes the step of the agent and returns its event."""
        event = self.label(agent)
        if event is None:
            raise BadSchedule(f"the agent {agent} cannot make a step")
        if agent < 0:
            self._flush(-agent - 1)
        else:
            self._perform(event)
        return event

    def label(self, agent):
        """The event that the agent would make, or None if it cannot make a step."""
        if agent < 0:
            return self._flush_event(-agent - 1)
        if agent not in self.threads:
            return None
        thread = self.threads[agent]
        instruction = pending(self.program, thread)
        if instruction is None or self._waits(thread, instruction):
            return None
        return self._thread_event(thread, instruction)

    def twin(self):
        """A machine in the same state, apart from this one."""
        return Twin(self)

    def state(self):
        """A tuple that is the same for two machines exactly if they are in the same state."""
        numbers = sorted(self.threads)
        threads = tuple([thread_state(self.threads[number]) for number in numbers])
        buffers = tuple([self.buffers[number] for number in numbers])
        return (tuple(self.variables), tuple(self.holders), buffers, threads)

    def end(self):
        """The threads, the values and the locks, as the end of a run tells them."""
        return (rows_of(self.threads), tuple(self.variables), tuple(self.holders))

    def _begin_thread(self, number, code, argument):
        self.threads[number] = begin(self.program, number, code, argument)
        self.buffers[number] = ()
        self.flushes[number] = 0

    def _flush_event(self, number):
        if number not in self.buffers or len(self.buffers[number]) == 0:
            return None
        variable, value = self.buffers[number][0]
        return (-number - 1, self.flushes[number], "flush", variable, None, value)

    def _flush(self, number):
        variable, value = self.buffers[number][0]
        self.variables[variable] = value
        self.buffers[number] = self.buffers[number][1:]
        self.flushes[number] += 1

    def _waits(self, thread, instruction):
        word = instruction[0]
        if word not in BUFFERED and len(self.buffers[thread.number]) > 0:
            return True
        if word == "lock":
            return self.holders[instruction[1]] is not None
        if word == "await":
            return self._value_for(thread, instruction[2]) != thread.registers[instruction[3]]
        if word == "join":
            return not self._is_over(thread.registers[instruction[1]])
        return False

    def _is_over(self, number):
        """True if a join of the thread with the number need not wait."""
        if number not in self.threads or self.threads[number].how is None:
            return False
        return len(self.buffers[number]) == 0

    def _own_value(self, thread, variable):
        """The value of the last pair with the variable in the thread's buffer, or None."""
        for named, value in reversed(self.buffers[thread.number]):
            if named == variable:
                return value
        return None

    def _value_for(self, thread, variable):
        own = self._own_value(thread, variable)
        return self.variables[variable] if own is None else own

    def _thread_event(self, thread, instruction):
        value = None
        if instruction[0] in READERS:
            value = self._value_for(thread, instruction[2])
        number, steps, kind, named, got, put = event_of(thread, instruction, value)
        if kind == "store" and self.memory == "buffers":
            kind = "buffer"
        elif kind in ("load", "await") and self._own_value(thread, named) is not None:
            kind = "own" if kind == "load" else "ownawait"
        return (number, steps, kind, named, got, put)

    def _perform(self, event):
        """Makes the step of a thread, of which this is the event."""
        number, _, kind, named, _, put = event
        thread = self.threads[number]
        if kind in ("store", "update"):
            self.variables[named] = put
        elif kind == "buffer":
            self.buffers[number] = (*self.buffers[number], (named, put))
        elif kind == "lock":
            self.holders[named] = number
        elif kind == "unlock":
            self.holders[named] = None
        elif kind == "spawn":
            code = pending(self.program, thread)[2]
            self._begin_thread(named, code, put)
        self.threads[number] = advance(self.program, thread, event)


class Twin(Machine):
    """A machine that begins in the state of another one, so its program needs no second check."""

    def __init__(self, other):
        self.program = other.program
        self.memory = other.memory
        self.variables = list(other.variables)
        self.holders = list(other.holders)
        self.threads = dict(other.threads)
        self.buffers = dict(other.buffers)
        self.flushes = dict(other.flushes)


def thread_state(thread):
    registers = tuple(thread.registers)
    if thread.how is not None:
        return (thread.number, thread.how, registers)
    return (thread.number, thread.code, thread.place, registers, thread.steps, thread.spawns)
