"""The desk: lines and their answers (point 26)."""

import unittest

from everyweave.desk import Desk
from everyweave.errors import BadArgument, BadLine, BadSchedule, TooLarge
from everyweave.explorer import explore
from everyweave.graphs import graph_ends, graph_things, graphs
from everyweave.runs import Run
from everyweave.texts import format_program
from everyweave.things import ends, shortest, things
from tests.helpers import MEMORIES, make_program, shared
from tests.samples import (CLASSES_300, CLASSES_301, GRAPHS, GRAPHS_1500, GRAPHS_1501, SMALL, STATES_3000, STATES_3001,
                           fences)

ALL = {**SMALL, **GRAPHS}
LEAST = "program vars; locks 0; code; threads 0:0"
# Two threads race for a plain variable, and one fails if it comes first.
RACE = "program vars 0p; locks 0; code store 0 0; code load 1 0, assert 1; threads 0:1 1:0"


def desk_with(*lines):
    desk = Desk()
    for line in lines:
        desk.do(line)
    return desk


def desk_for(program, memory):
    return desk_with("program " + format_program(program), "memory " + memory)


def written(thing):
    return " ".join(str(part) for part in thing)


def listed(agents):
    return ",".join(str(agent) for agent in agents) or "-"


class Answers(unittest.TestCase):
    def test_an_example(self):
        desk = Desk()
        for line, answer in (
            ("memory sequential", "ok"), (RACE, "ok"), ("count", "2"), ("ends", "2"),
            ("things", "failed 1 assert, race 0 0 1"), ("shortest race 0 0 1", "-"), ("shortest failed 1 assert", "1"),
            ("shortest failed 0 assert", "none"), ("play -", "open"), ("play 0", "open"), ("play 0,1", "whole"),
            ("play 0,0", "stuck"), ("memory buffers", "ok"), ("count", "2"), ("play 0,1", "open"),
            ("play 0,1,-1", "whole"), ("play -1", "stuck"), ("memory graphs", "ok"), ("count", "2"), ("ends", "2"),
            ("things", "failed 1 assert, race 0 0 1"), (LEAST, "ok"), ("things", "none"), ("count", "1"),
        ):
            self.assertEqual(desk.do(line), answer, line)

    def test_counts_ends_and_things_in_every_memory(self):
        for name, program in ALL.items():
            for memory in MEMORIES:
                desk = desk_for(program, memory)
                self.assertEqual(desk.do("count"), str(len(explore(program, memory)[0])), name)
                self.assertEqual(desk.do("ends"), str(len(ends(program, memory))), name)
                told = ", ".join(written(thing) for thing in things(program, memory))
                self.assertEqual(desk.do("things"), told or "none", name)
            desk = desk_for(program, "graphs")
            self.assertEqual(desk.do("count"), str(len(graphs(program))), name)
            self.assertEqual(desk.do("ends"), str(len(graph_ends(program))), name)
            self.assertEqual(desk.do("things"), ", ".join(map(written, graph_things(program))) or "none", name)

    def test_the_memories_answer_differently(self):
        program = SMALL["store buffering"]
        self.assertEqual([desk_for(program, memory).do("count") for memory in (*MEMORIES, "graphs")], ["3", "4", "4"])
        program = GRAPHS["two writers"]
        self.assertEqual([desk_for(program, memory).do("ends") for memory in (*MEMORIES, "graphs")], ["3", "3", "4"])

    def test_shortest_for_all_told_things_and_others(self):
        others = [("standstill",), ("cut", 0), ("cut", 27), ("failed", 3, "held"), ("failed", 27, "loop")]
        for name, program in ALL.items():
            for memory in MEMORIES:
                desk = desk_for(program, memory)
                for thing in things(program, memory) + others:
                    schedule = shortest(program, memory, thing)
                    answer = "none" if schedule is None else listed(schedule)
                    self.assertEqual(desk.do("shortest " + written(thing)), answer, (name, thing))

    def test_plays(self):
        for name, program in ALL.items():
            for memory in MEMORIES:
                desk = desk_for(program, memory)
                for schedule in explore(program, memory)[0][:5]:
                    for k in range(len(schedule) + 1):
                        self.check_play(desk, program, memory, schedule[:k])
                    for more in (0, -1, 27, -28, 28, 999999999, -999999999):
                        self.check_play(desk, program, memory, schedule + [more])
                        self.check_play(desk, program, memory, [more] + schedule)

    def check_play(self, desk, program, memory, schedule):
        try:
            answer = "whole" if Run(program, memory, schedule).whole else "open"
        except BadSchedule:
            answer = "stuck"
        self.assertEqual(desk.do("play " + listed(schedule)), answer)

    def test_a_whole_empty_schedule(self):
        self.assertEqual(desk_with(LEAST).do("play -"), "whole")
        self.assertEqual(desk_with("program vars; locks 0; code fence; threads 0:0").do("play -"), "open")

    def test_integers_that_are_no_agents(self):
        desk = desk_with(RACE)
        for number in (2, -1, 28, -29, 123456789, -123456789):
            self.assertEqual(desk.do(f"play {number}"), "stuck")
            self.assertEqual(desk.do(f"play 0,1,{number}"), "stuck")


class WhatTheDeskKeeps(unittest.TestCase):
    def test_no_program_and_the_sequential_memory_at_first(self):
        desk = Desk()
        for line in ("count", "ends", "things", "shortest standstill", "play -", "play 0"):
            with self.assertRaises(BadLine):
                desk.do(line)
        self.assertEqual(desk.do("program " + format_program(SMALL["store buffering"])), "ok")
        self.assertEqual(desk.do("count"), "3")

    def test_a_memory_ahead_of_a_program(self):
        for memory, count in (("sequential", "3"), ("buffers", "4"), ("graphs", "4")):
            desk = Desk()
            self.assertEqual(desk.do("memory " + memory), "ok")
            with self.assertRaises(BadLine):
                desk.do("count")
            self.assertEqual(desk.do("program " + format_program(SMALL["store buffering"])), "ok")
            self.assertEqual(desk.do("count"), count)

    def test_a_program_keeps_the_memory_and_a_memory_the_program(self):
        desk = desk_for(SMALL["store buffering"], "buffers")
        self.assertEqual(desk.do("program " + format_program(SMALL["stores of one variable"])), "ok")
        self.assertEqual(desk.do("play 0,1"), "open")
        self.assertEqual(desk.do("memory sequential"), "ok")
        self.assertEqual(desk.do("play 0,1"), "whole")
        self.assertEqual(desk.do("program " + format_program(SMALL["two fences"])), "ok")
        self.assertEqual(desk.do("count"), "1")
        self.assertEqual(desk.do("memory graphs"), "ok")
        self.assertEqual(desk.do("count"), "2")

    def test_desks_are_apart_from_each_other(self):
        first, second = desk_for(SMALL["two fences"], "graphs"), Desk()
        with self.assertRaises(BadLine):
            second.do("count")
        second.do(LEAST)
        self.assertEqual((first.do("count"), second.do("count")), ("2", "1"))

    def test_asking_changes_nothing(self):
        desk = desk_for(SMALL["deadlock"], "buffers")
        lines = ("count", "ends", "things", "shortest standstill", "play 0,1", "play 7")
        answers = [desk.do(line) for line in lines]
        self.assertEqual([desk.do(line) for line in lines], answers)
        self.assertEqual(answers, ["3", "3", "standstill", "0,1", "whole", "stuck"])


class NoLines(unittest.TestCase):
    def refuse(self, desk, *lines):
        for line in lines:
            with self.subTest(line=line):
                with self.assertRaises(BadLine):
                    desk.do(line)

    def desks(self):
        """Desks with and without a program, with every memory, and what tells that they are as they were."""
        for memory in (*MEMORIES, "graphs"):
            desk = desk_with("memory " + memory)
            yield desk, None
            desk = desk_for(SMALL["store buffering"], memory)
            yield desk, {"sequential": "3", "buffers": "4", "graphs": "4"}[memory]

    def test_blanks_words_and_numbers(self):
        for desk, count in self.desks():
            self.refuse(
                desk, "", " ", "  ", "\n", "count ", " count", "count\n", "\tcount", "Count", "counts", "count count",
                "count 1", "ends ", " ends", "ends 0", "things ", "  things", "things none", "thing", "end",
                "memory", "memory ", "memory  graphs", " memory graphs", "memory graphs ", "memory Graphs",
                "memory graph", "memory buffer", "memory sequential buffers", "memorysequential", "memory -", "ok",
                "shortest", "shortest ", "shortest  standstill", "shortest standstill ", "shortest\tstandstill",
                "play", "play ", "play  -", "play - ", "play 0 0", "play 0, 0", "play 0,", "play ,0", "play ,",
                "play 0,,0", "play 00", "play 01", "play -0", "play +0", "play 0;0", "play --1", "play 0,-",
                "play -,0", "play a", "play 0a", "play 1234567890", "play -1234567890", "play 0,1234567890", "play 1_0",
                "play \u0661", "play \u00b2", "play 1.0", "play [0]", "play 0\n", "play none",
                "program", "program ", "help",
            )
            self.still(desk, count)

    def still(self, desk, count):
        if count is None:
            self.refuse(desk, "count")
        else:
            self.assertEqual(desk.do("count"), count)

    def test_texts_that_are_no_programs(self):
        for desk, count in self.desks():
            self.refuse(desk, "program vars", "program  vars; locks 0; code; threads 0:0",
                        "program vars; locks 0; code; threads 0:0 ", " " + LEAST, LEAST + "\n", "Program" + LEAST[7:],
                        "program vars; locks 0; code; threads 0:-0", "program vars; locks 0; code; threads 0:+1",
                        "program vars; locks 3; code; threads 0:0", "program vars; locks 0; code; threads 0:1000",
                        "program vars 0p; locks 0; code swap 0 0 0; threads 0:0", "program program " + LEAST[8:],
                        "program vars; locks 0; code; threads 1:0", "programvars; locks 0; code; threads 0:0",
                        LEAST[8:])
            self.still(desk, count)

    def test_things_that_shortest_does_not_take(self):
        for memory in MEMORIES:
            desk = desk_for(SMALL["plain race"], memory)
            for text in ("end", "end 0", "failed", "failed 0", "failed assert 0", "failed 28 assert",
                         "failed -1 assert", "failed 0 finished", "failed 0 cut", "failed 0 Assert",
                         "failed 0 assert 0", "cut", "cut 28", "cut -1", "cut 0 0", "cut x", "cut 00", "cut 01",
                         "cut -0", "cut +1", "cut 1234567890", "cut 123456789", "standstill 0", "Standstill",
                         "none", "0", "-", "race", "race 0",
                         "race 0 0", "race 0 1 0", "race 0 1 1", "race 1 0 1", "race -1 0 1", "race 0 0 28",
                         "race 0 0 1 2", "race 0 0 1,", "race 0, 0 1", "race 0  0 1", "failed 0  assert",
                         "race 00 0 1", "race 0 0 01", "race 0 0 \u0661"):
                self.refuse(desk, "shortest " + text)
            self.assertEqual(desk.do("shortest race 0 0 1"), "-")
            self.assertEqual(desk.do("shortest race 0 26 27"), "none")
            self.refuse(desk_for(SMALL["two fences"], memory), "shortest race 0 0 1")

    def test_bad_lines_exactly_where_shortest_raises_bad_argument(self):
        program = SMALL["plain race"]
        things_asked = [("race", x, t, u) for x in (-1, 0, 1, 4) for t in (-1, 0, 1, 27, 28) for u in (0, 1, 27, 28)]
        things_asked += [("cut", t) for t in range(-2, 31)]
        things_asked += [("failed", t, word) for t in (-1, 0, 27, 28) for word in ("assert", "range", "loop", "held",
                                                                                   "spawn", "cut", "waiting", "word")]
        for memory in MEMORIES:
            desk = desk_for(program, memory)
            for thing in things_asked:
                try:
                    shortest(program, memory, thing)
                except BadArgument:
                    self.refuse(desk, "shortest " + written(thing))
                else:
                    desk.do("shortest " + written(thing))

    def test_shortest_and_play_with_graphs(self):
        desk = desk_for(SMALL["plain race"], "graphs")
        self.refuse(desk, "shortest race 0 0 1", "shortest standstill", "shortest cut 28", "play -", "play 0",
                    "play 0,1", "play 99", "play x")
        self.assertEqual(desk.do("things"), "race 0 0 1")
        self.assertEqual(desk_with(LEAST, "memory graphs", "memory buffers").do("play -"), "whole")
        # Whatever would be too large is no line all the same.
        self.refuse(desk_for(STATES_3001, "graphs"), "shortest standstill")

    def test_a_program_may_be_changed_behind_bad_lines(self):
        desk = desk_with(RACE)
        self.refuse(desk, "program vars", "memory graph")
        self.assertEqual(desk.do("things"), "failed 1 assert, race 0 0 1")
        self.assertEqual(desk.do("memory graphs"), "ok")
        self.refuse(desk, "memory", "program")
        self.assertEqual(desk.do("count"), "2")


class TooMuch(unittest.TestCase):
    def test_classes(self):
        for memory in MEMORIES:
            self.assertEqual(desk_for(CLASSES_300, memory).do("count"), "300")
            self.assertEqual(desk_for(CLASSES_301[memory], memory).do("count"), "too large")

    def test_states(self):
        for memory in MEMORIES:
            desk = desk_for(STATES_3000, memory)
            answers = [desk.do(line) for line in ("ends", "things", "shortest standstill")]
            self.assertEqual(answers, ["1", "none", "none"])
            desk = desk_for(STATES_3001, memory)
            for line in ("ends", "things", "shortest standstill", "shortest cut 0"):
                self.assertEqual(desk.do(line), "too large")
            # What no state can be told of is no line, however many states there are.
            for line in ("shortest cut 28", "shortest race 0 0 1"):
                with self.assertRaises(BadLine):
                    desk.do(line)

    def test_graphs(self):
        desk = desk_for(GRAPHS_1500, "graphs")
        self.assertEqual([desk.do(line) for line in ("count", "ends", "things")],
                         [str(len(graphs(GRAPHS_1500))), str(len(graph_ends(GRAPHS_1500))), "none"])
        desk = desk_for(GRAPHS_1501, "graphs")
        for line in ("count", "ends", "things"):
            self.assertEqual(desk.do(line), "too large")
        self.assertEqual(desk.do("memory sequential"), "ok")
        with self.assertRaises(TooLarge):
            graphs(GRAPHS_1501)

    def test_each_line_by_its_own_bound(self):
        # One class, and too many states and graphs.
        program = make_program((("load", 1, 0),) * 8, variables=shared(0), threads=((0, 0),) * 4)
        desk = desk_for(program, "sequential")
        self.assertEqual([desk.do(line) for line in ("count", "ends", "things")], ["1", "too large", "too large"])
        desk = desk_for(program, "graphs")
        self.assertEqual([desk.do(line) for line in ("count", "ends", "things")], ["too large"] * 3)

    def test_play_is_never_too_large(self):
        program = make_program(fences(8), threads=((0, 0),) * 4)
        for memory in MEMORIES:
            desk = desk_for(program, memory)
            self.assertEqual(desk.do("play " + listed([0, 1, 2, 3] * 8)), "whole")
            self.assertEqual(desk.do("play " + listed([0, 1, 2, 3] * 7)), "open")
            self.assertEqual(desk.do("play " + listed([0, 1, 2, 3] * 9)), "stuck")

    def test_the_desk_goes_on(self):
        desk = desk_for(STATES_3001, "buffers")
        self.assertEqual(desk.do("things"), "too large")
        self.assertEqual(desk.do(RACE), "ok")
        self.assertEqual(desk.do("things"), "failed 1 assert, race 0 0 1")


if __name__ == "__main__":
    unittest.main()
