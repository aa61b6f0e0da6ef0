"""The desk: a program and a memory, asked by lines of words."""

from everyweave.errors import BadArgument, BadLine, BadSchedule, BadText, TooLarge
from everyweave.explorer import explore
from everyweave.graphs import graph_ends, graph_things, graphs
from everyweave.runs import Run
from everyweave.texts import integer_of, parse_program
from everyweave.things import ends, shortest, things

MEMORIES = ("sequential", "buffers", "graphs")


class Desk:
    """Keeps a program, none at first, and a memory, and answers lines."""

    def __init__(self):
        self.program = None
        self.memory = "sequential"

    def do(self, line):
        """The answer to a line; BadLine is raised, and nothing changes, for a line that is none."""
        word, _, rest = line.partition(" ")
        if word == "program":
            self.program = program_of(rest)
            return "ok"
        if word == "memory":
            self.memory = memory_of(rest)
            return "ok"
        if self.program is None:
            raise BadLine("there is no program yet")
        try:
            return self._tell(line)
        except TooLarge:
            return "too large"

    def _tell(self, line):
        if line == "count":
            return str(self._count())
        if line == "ends":
            return str(len(graph_ends(self.program) if self.memory == "graphs" else ends(self.program, self.memory)))
        if line == "things":
            return self._things()
        word, _, rest = line.partition(" ")
        if self.memory != "graphs" and word == "shortest":
            return self._shortest(rest)
        if self.memory != "graphs" and word == "play":
            return self._play(rest)
        raise BadLine("there is no such line, or not with this memory")

    def _count(self):
        if self.memory == "graphs":
            return len(graphs(self.program))
        return len(explore(self.program, self.memory)[0])

    def _things(self):
        told = graph_things(self.program) if self.memory == "graphs" else things(self.program, self.memory)
        if len(told) == 0:
            return "none"
        return ", ".join([" ".join([str(part) for part in thing]) for thing in told])

    def _shortest(self, text):
        try:
            schedule = shortest(self.program, self.memory, thing_of(text))
        except BadArgument:
            raise BadLine("this is no told thing other than an end") from None
        if schedule is None:
            return "none"
        return "-" if len(schedule) == 0 else ",".join([str(agent) for agent in schedule])

    def _play(self, text):
        schedule = schedule_of(text)
        try:
            run = Run(self.program, self.memory, schedule)
        except BadSchedule:
            return "stuck"
        return "whole" if run.whole else "open"


def program_of(text):
    """The program of the textual form; BadLine is raised if it is the form of none."""
    try:
        return parse_program(text)
    except BadText:
        raise BadLine("this is not the textual form of a program") from None


def memory_of(word):
    if word not in MEMORIES:
        raise BadLine("a memory is sequential, buffers or graphs")
    return word


def thing_of(text):
    """What is written as a told thing other than an end, whether it is one or not."""
    parts = []
    for word in text.split(" "):
        number = integer_of(word)
        parts.append(word if number is None else number)
    return tuple(parts)


def schedule_of(text):
    """The list of agents that is written so."""
    if text == "-":
        return []
    schedule = [integer_of(word) for word in text.split(",")]
    if None in schedule:
        raise BadLine("a schedule is written as integers separated by commas")
    return schedule
