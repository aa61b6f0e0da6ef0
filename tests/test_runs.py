"""Runs: what a schedule plays, its end, and the schedules that cannot be played (points 9 and 10)."""

import unittest

from everyweave.errors import BadArgument, BadProgram, BadSchedule
from everyweave.machine import Machine
from everyweave.runs import Run
from tests.helpers import MEMORIES, events_of, machine_behind, make_program, played_machines, shared
from tests.samples import SMALL


class Played(unittest.TestCase):
    def test_events_end_and_whole_are_those_of_the_machine(self):
        for name, program in SMALL.items():
            for memory in MEMORIES:
                for schedule, machine in played_machines(program, memory).items():
                    with self.subTest(name, memory=memory, schedule=schedule):
                        run = Run(program, memory, list(schedule))
                        self.assertEqual(run.events, events_of(program, memory, schedule))
                        self.assertEqual(run.end(), machine.end())
                        self.assertIs(run.whole, machine.able() == [])

    def test_an_example(self):
        run = Run(SMALL["message"], "buffers", [0, 0, -1])
        self.assertEqual(run.events, [
            (0, 0, "buffer", 0, None, 1),
            (0, 1, "buffer", 1, None, 1),
            (-1, 0, "flush", 0, None, 1),
        ])
        self.assertIs(run.whole, False)
        self.assertEqual(run.end(), (((0, "finished", (1, 0, 0, 0)), (1, "waiting", (1, 0, 0, 0))), (1, 0), ()))

    def test_the_fields(self):
        program = SMALL["store buffering"]
        run = Run(program, "sequential", [1, 0, 0])
        self.assertEqual((run.program, run.memory, run.schedule), (program, "sequential", [1, 0, 0]))
        self.assertEqual([event[0] for event in run.events], [1, 0, 0])

    def test_the_empty_schedule(self):
        for memory in MEMORIES:
            run = Run(SMALL["one step"], memory, [])
            self.assertEqual((run.schedule, run.events, run.whole), ([], [], False))
            self.assertEqual(run.end(), Machine(SMALL["one step"], memory).end())
            self.assertIs(Run(SMALL["nothing to do"], memory, []).whole, True)

    def test_whole_with_threads_that_wait_are_cut_or_failed(self):
        self.assertIs(Run(SMALL["deadlock"], "sequential", [0, 1]).whole, True)
        self.assertIs(Run(SMALL["cut"], "sequential", [0] * 8 + [1]).whole, True)
        self.assertIs(Run(SMALL["taken for ever"], "buffers", [0]).whole, True)
        self.assertEqual([row[1] for row in Run(SMALL["deadlock"], "sequential", [0, 1]).end()[0]], ["waiting"] * 2)

    def test_not_whole_while_a_buffer_holds_a_pair(self):
        program = make_program((("store", 0, 0),), variables=shared(0), threads=((0, 4),))
        run = Run(program, "buffers", [0])
        self.assertIs(run.whole, False)
        self.assertEqual(run.end()[1], (0,))
        run = Run(program, "buffers", [0, -1])
        self.assertIs(run.whole, True)
        self.assertEqual(run.end()[1], (4,))


class Own(unittest.TestCase):
    def test_the_schedule_and_the_events_are_lists_of_its_own(self):
        schedule = [0, 1]
        run = Run(SMALL["two fences"], "sequential", schedule)
        again = Run(SMALL["two fences"], "sequential", schedule)
        schedule.append(7)
        run.schedule.append(8)
        run.events.append(None)
        self.assertEqual((schedule, run.schedule, again.schedule), ([0, 1, 7], [0, 1, 8], [0, 1]))
        self.assertEqual(len(again.events), 2)

    def test_the_schedule_is_not_changed(self):
        schedule = [0, -1, 1]
        Run(SMALL["stores of one variable"], "buffers", schedule)
        self.assertEqual(schedule, [0, -1, 1])

    def test_a_run_of_the_schedule_of_another_one(self):
        first = Run(SMALL["two fences"], "sequential", [1])
        second = Run(SMALL["two fences"], "sequential", first.schedule)
        second.schedule.append(0)
        self.assertEqual(first.schedule, [1])


class Refused(unittest.TestCase):
    def refuse(self, name, memory, schedule):
        with self.subTest(name, memory=memory, schedule=schedule):
            with self.assertRaises(BadSchedule):
                Run(SMALL[name], memory, schedule)

    def test_agents_that_cannot_make_a_step(self):
        for memory in MEMORIES:
            self.refuse("mutex", memory, [0, 1])
            self.refuse("one step", memory, [0, 0])
            self.refuse("missed value", memory, [1, 0] if memory == "sequential" else [1, -2, 0])
            self.refuse("join of what is never", memory, [1, 0])
            self.refuse("cut", memory, [0] * 9)
            self.refuse("nothing to do", memory, [0])

    def test_buffers_that_are_empty(self):
        self.refuse("stores of one variable", "buffers", [-1])
        self.refuse("stores of one variable", "buffers", [0, -2])
        self.refuse("stores of one variable", "buffers", [0, -1, -1])
        self.refuse("stores of one variable", "sequential", [0, -1])

    def test_a_buffer_that_is_not_empty(self):
        self.refuse("needs an empty buffer", "buffers", [0, 0])
        self.refuse("children", "buffers", [0, 4, 0, 0])

    def test_integers_that_are_no_agents(self):
        for memory in MEMORIES:
            for agent in (2, 4, 28, -3, -29, 10 ** 30, -10 ** 30):
                self.refuse("two fences", memory, [agent])
                self.refuse("two fences", memory, [0, 1, agent])

    def test_an_agent_in_the_middle(self):
        self.refuse("two fences", "sequential", [0, 0, 1])

    def test_every_schedule_that_leaves_a_run(self):
        for name in ("foreign join", "missed value", "deadlock", "stores of one variable"):
            for memory in MEMORIES:
                for schedule, machine in played_machines(SMALL[name], memory).items():
                    for agent in range(-7, 7):
                        if agent not in machine.able():
                            self.refuse(name, memory, [*schedule, agent])

    def test_other_memories(self):
        for memory in ("graphs", "", "Sequential", "buffer", "sequential ", "tso"):
            with self.assertRaises(BadArgument):
                Run(SMALL["one step"], memory, [0])

    def test_the_order_of_the_errors(self):
        with self.assertRaises(BadProgram):
            Run(((), 0, (), ()), "graphs", [9])
        with self.assertRaises(BadProgram):
            Run(None, "sequential", [])
        with self.assertRaises(BadArgument):
            Run(SMALL["one step"], "graphs", [9])


class SameStates(unittest.TestCase):
    def test_runs_to_the_same_state_have_the_same_end_and_wholeness(self):
        for name, program in SMALL.items():
            for memory in MEMORIES:
                known = {}
                for schedule in played_machines(program, memory):
                    run = Run(program, memory, schedule)
                    state = machine_behind(program, memory, schedule).state()
                    self.assertEqual(known.setdefault(state, (run.end(), run.whole)), (run.end(), run.whole), name)


if __name__ == "__main__":
    unittest.main()
