"""What is promised over the whole program (point 27)."""

import unittest

from everyweave.explorer import explore, is_paper
from everyweave.graphs import graph_ends, graphs, is_execution
from everyweave.runs import Run, all_runs, alike, normal_form
from everyweave.texts import format_program, parse_program
from everyweave.things import ends, shortest, things
from tests import literal
from tests.helpers import MEMORIES, all_states, exchanged, machine_behind, told_in
from tests.samples import GRAPHS, GRAPHS_1500, SMALL, STATES_3000

ALL = {**SMALL, **GRAPHS}


def waits(end):
    return "waiting" in [row[1] for row in end[0]]


def events_by_agent(run):
    found = {}
    for event in run.events:
        found.setdefault(event[0], []).append(event)
    return found


class Runs(unittest.TestCase):
    def test_alike_schedules_lead_to_the_same_state_by_the_same_events(self):
        for name, program in GRAPHS.items():
            for memory in MEMORIES:
                for schedule in explore(program, memory)[0][:6]:
                    run = Run(program, memory, schedule)
                    state = machine_behind(program, memory, schedule).state()
                    for other in sorted(exchanged(run))[:40]:
                        also = Run(program, memory, list(other))
                        self.assertTrue(alike(run, also), name)
                        self.assertEqual(events_by_agent(also), events_by_agent(run), name)
                        self.assertEqual(machine_behind(program, memory, other).state(), state, name)

    def test_one_schedule_of_each_class_is_a_paper(self):
        for name, program in ALL.items():
            for memory in MEMORIES:
                schedules, _ = explore(program, memory)
                self.assertIs(is_paper(program, memory, schedules), True, name)
                self.assertIs(is_paper(program, memory, schedules[1:]), False, name)
                self.assertIs(is_paper(program, memory, schedules + schedules[:1]), False, name)

    def test_the_classes_are_those_of_all_schedules(self):
        for name in ("publishing", "publishing plainly", "two writers", "an elder writer", "held for ever",
                     "joined children", "a child without events", "fetch beyond the values", "load buffering"):
            for memory in MEMORIES:
                forms = [normal_form(Run(GRAPHS[name], memory, schedule))
                         for schedule in explore(GRAPHS[name], memory)[0]]
                self.assertEqual(sorted(forms), all_runs(GRAPHS[name], memory), name)

    def test_the_ends_of_the_explorer_are_all_ends(self):
        for name, program in ALL.items():
            for memory in MEMORIES:
                found = {Run(program, memory, schedule).end() for schedule in explore(program, memory)[0]}
                self.assertEqual(found, set(ends(program, memory)), name)


class Things(unittest.TestCase):
    def test_each_told_thing_has_a_schedule_that_plays_and_leads_to_it(self):
        for name, program in ALL.items():
            for memory in MEMORIES:
                for thing in things(program, memory) + [("end", end) for end in ends(program, memory)]:
                    machine = machine_behind(program, memory, shortest(program, memory, thing))
                    self.assertIn(thing, told_in(program, machine), name)

    def test_what_holds_in_no_state_is_not_told(self):
        for name, program in GRAPHS.items():
            for memory in MEMORIES:
                found = {thing for machine in all_states(program, memory).values()
                         for thing in told_in(program, machine)}
                told = things(program, memory) + [("end", end) for end in ends(program, memory)]
                self.assertEqual((len(told), set(told)), (len(found), found), name)


class Graphs(unittest.TestCase):
    def test_every_whole_graph_exactly_once(self):
        for name, program in ALL.items():
            told = graphs(program)
            self.assertEqual((len(told), set(told)), (len(set(told)), literal.whole_graphs(program)), name)
            for graph in told:
                self.assertIs(is_execution(program, graph), True, name)


class BetweenTheMemories(unittest.TestCase):
    def test_ends_of_the_sequential_memory_are_ends_with_store_buffers(self):
        for name, program in (*ALL.items(), ("states", STATES_3000)):
            self.assertLessEqual(set(ends(program, "sequential")), set(ends(program, "buffers")), name)

    def test_ends_of_the_sequential_memory_in_which_no_thread_waits_are_ends_of_graphs(self):
        many = 0
        for name, program in (*ALL.items(), ("graphs", GRAPHS_1500)):
            found = {end for end in ends(program, "sequential") if not waits(end)}
            self.assertLessEqual(found, set(graph_ends(program)), name)
            many += len(found)
        self.assertGreater(many, 100)

    def test_an_end_in_which_a_thread_waits_need_not_be_one(self):
        program = GRAPHS["an elder writer"]
        found = {end for end in ends(program, "sequential") if waits(end)}
        self.assertEqual(len(found), 1)
        self.assertEqual(found & set(graph_ends(program)), set())


class Texts(unittest.TestCase):
    def test_the_text_of_a_program_is_read_back_as_the_program(self):
        for name, program in ALL.items():
            self.assertEqual(parse_program(format_program(program)), program, name)


if __name__ == "__main__":
    unittest.main()
