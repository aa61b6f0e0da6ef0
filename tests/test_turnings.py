"""Initials and turnings of a run (point 15)."""

import unittest

from everyweave.errors import BadArgument
from everyweave.explorer import initials, turned, turnings
from everyweave.runs import Run, before
from tests.helpers import MEMORIES, exchanged, machine_behind, make_program, played_machines, shared
from tests.samples import SMALL, some_runs


def rest_of(run, i):
    return [run.schedule[j] for j in range(len(run.events)) if j != i and not before(run, i, j)]


class Initials(unittest.TestCase):
    def test_the_agents_that_a_schedule_of_the_class_begins_with(self):
        for run in some_runs():
            first = {schedule[0] for schedule in exchanged(run) if schedule}
            self.assertEqual(initials(run), sorted(first))

    def test_examples(self):
        self.assertEqual(initials(Run(SMALL["two fences"], "sequential", [1, 0])), [0, 1])
        self.assertEqual(initials(Run(SMALL["two fences"], "sequential", [1])), [1])
        self.assertEqual(initials(Run(SMALL["two fences"], "sequential", [])), [])
        self.assertEqual(initials(Run(SMALL["stores of one variable"], "sequential", [1, 0])), [1])
        self.assertEqual(initials(Run(SMALL["stores of one variable"], "buffers", [1, 0, -2, -1])), [0, 1])

    def test_each_agent_once(self):
        program = make_program((("fence",),) * 3, (("fence",),) * 3)
        self.assertEqual(initials(Run(program, "sequential", [1, 1, 0, 1, 0])), [0, 1])


class Turnings(unittest.TestCase):
    def test_every_other_agent_that_can_make_a_step_behind_a_rest(self):
        for run in some_runs():
            expected = []
            for i in range(len(run.events)):
                machine = machine_behind(run.program, run.memory, rest_of(run, i))
                expected += [(i, agent) for agent in machine.able() if agent != run.schedule[i]]
            self.assertEqual(turnings(run), expected)

    def test_the_turned_schedule_is_the_rest_and_the_agent(self):
        for run in some_runs():
            for i, agent in turnings(run):
                self.assertEqual(turned(run, i, agent), rest_of(run, i) + [agent])
                Run(run.program, run.memory, turned(run, i, agent))

    def test_two_accesses_of_one_variable(self):
        run = Run(SMALL["plain race"], "sequential", [0, 1])
        self.assertEqual(turnings(run), [(0, 1)])
        self.assertEqual(turned(run, 0, 1), [1])

    def test_the_rest_keeps_what_the_event_does_not_come_before(self):
        program = make_program((("store", 0, 0), ("fence",)), (("fence",), ("load", 1, 0)), (("fence",),),
                               variables=shared(0))
        run = Run(program, "sequential", [0, 2, 1, 0, 1])
        self.assertEqual(turnings(run), [(0, 1)])
        self.assertEqual(turned(run, 0, 1), [2, 1, 1])

    def test_a_thread_that_waits_for_ever_may_go_on_without_the_event(self):
        run = Run(SMALL["taken for ever"], "sequential", [0])
        self.assertEqual(turnings(run), [(0, 1)])
        self.assertEqual(turned(run, 0, 1), [1])
        run = Run(SMALL["missed value"], "sequential", [1])
        self.assertTrue(run.whole)
        self.assertEqual(turnings(run), [(0, 0)])
        self.assertEqual(turned(run, 0, 0), [0])
        run = Run(SMALL["missed value"], "buffers", [1, -2])
        self.assertEqual(turnings(run), [(0, 0), (1, 0)])
        self.assertEqual([turned(run, 0, 0), turned(run, 1, 0)], [[0], [1, 0]])
        run = Run(SMALL["deadlock"], "buffers", [0, 1])
        self.assertEqual(turnings(run), [(0, 1), (1, 0)])
        self.assertEqual([turned(run, 0, 1), turned(run, 1, 0)], [[1, 1], [0, 0]])

    def test_buffers_are_agents_too(self):
        run = Run(SMALL["stores of one variable"], "buffers", [0, 1, -1, -2])
        self.assertEqual(turnings(run), [(0, -2), (2, -2)])
        self.assertEqual(turned(run, 0, -2), [1, -2])
        self.assertEqual(turned(run, 2, -2), [0, 1, -2])

    def test_of_a_run_that_is_not_whole(self):
        run = Run(SMALL["two fences"], "sequential", [0])
        self.assertEqual(turnings(run), [(0, 1)])
        self.assertEqual(turned(run, 0, 1), [1])

    def test_none(self):
        self.assertEqual(turnings(Run(SMALL["two fences"], "sequential", [])), [])
        self.assertEqual(turnings(Run(SMALL["two fences"], "sequential", [0, 1])), [])
        self.assertEqual(turnings(Run(SMALL["nothing to do"], "buffers", [])), [])

    def test_new_lists_each_time(self):
        run = Run(SMALL["plain race"], "sequential", [0, 1])
        turnings(run).append((5, 5))
        initials(run).append(5)
        turned(run, 0, 1).append(5)
        self.assertEqual((turnings(run), initials(run), turned(run, 0, 1)), ([(0, 1)], [0], [1]))
        self.assertEqual(run.schedule, [0, 1])


class NoTurnings(unittest.TestCase):
    def test_every_pair_that_is_none(self):
        for name in ("plain race", "missed value", "stores of one variable", "deadlock", "foreign join"):
            for memory in MEMORIES:
                program = SMALL[name]
                for schedule in sorted(played_machines(program, memory))[::3]:
                    run = Run(program, memory, schedule)
                    known = turnings(run)
                    for i in range(-2, len(schedule) + 2):
                        for agent in range(-7, 7):
                            if (i, agent) not in known:
                                with self.assertRaises(BadArgument):
                                    turned(run, i, agent)

    def test_the_agent_of_the_event_itself(self):
        with self.assertRaises(BadArgument):
            turned(Run(SMALL["two fences"], "sequential", [0]), 0, 0)

    def test_integers_that_are_no_agents(self):
        run = Run(SMALL["plain race"], "sequential", [0, 1])
        for agent in (2, -1, -2, 28, 10 ** 30, -10 ** 30):
            with self.assertRaises(BadArgument):
                turned(run, 0, agent)

    def test_indexes_that_do_not_exist(self):
        run = Run(SMALL["plain race"], "sequential", [0, 1])
        for i in (-1, -2, 2, 10 ** 30):
            with self.assertRaises(BadArgument):
                turned(run, i, 1)


if __name__ == "__main__":
    unittest.main()
