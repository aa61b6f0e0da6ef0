"""The order of a run, alike runs, normal forms and clocks (points 12 and 13)."""

import unittest

from everyweave.errors import BadArgument
from everyweave.runs import Run, alike, before, clocks, normal_form, touching
from tests.helpers import MEMORIES, classes_of, exchanged, make_program, played_machines, shared, whole_schedules
from tests.samples import SMALL, some_runs


def pairs_before(run):
    indexes = range(len(run.events))
    return {(run.events[i][:2], run.events[j][:2]) for i in indexes for j in indexes if before(run, i, j)}


class Before(unittest.TestCase):
    def test_events_that_touch_or_have_one_between_them(self):
        for run in some_runs():
            many = len(run.events)
            known = set()
            for j in range(many):
                for i in reversed(range(j)):
                    if touching(run, i, j) or any((i, k) in known and (k, j) in known for k in range(i + 1, j)):
                        known.add((i, j))
            for i in range(many):
                for j in range(many):
                    self.assertIs(before(run, i, j), (i, j) in known)

    def test_by_an_event_between_them(self):
        program = make_program((("store", 0, 0), ("store", 1, 0)), (("load", 1, 1), ("store", 2, 0)), (("load", 1, 2),),
                               variables=shared(0, 0, 0))
        run = Run(program, "sequential", [0, 0, 1, 1, 2])
        self.assertIs(before(run, 0, 4), True)
        self.assertIs(touching(run, 0, 4), False)

    def test_not_the_same_one_and_not_backwards(self):
        run = Run(SMALL["stores of one variable"], "sequential", [0, 1])
        self.assertEqual([before(run, *pair) for pair in ((0, 0), (0, 1), (1, 0), (1, 1))],
                         [False, True, False, False])

    def test_a_fence_comes_before_a_later_flush_through_the_pair(self):
        program = make_program((("fence",), ("store", 0, 0)), variables=shared(0))
        run = Run(program, "buffers", [0, 0, -1])
        self.assertIs(before(run, 0, 2), True)

    def test_indexes_that_do_not_exist(self):
        run = Run(SMALL["two fences"], "sequential", [0, 1])
        for i, j in ((0, 2), (2, 0), (2, 2), (-1, 0), (0, -1), (-1, -1), (5, 9), (9, 5)):
            with self.subTest(i=i, j=j):
                with self.assertRaises(BadArgument):
                    before(run, i, j)
        with self.assertRaises(BadArgument):
            before(Run(SMALL["two fences"], "sequential", []), 0, 0)


class Clocks(unittest.TestCase):
    def test_how_many_events_of_each_agent_come_before(self):
        for run in some_runs():
            expected = []
            for j in range(len(run.events)):
                clock = {}
                for i in range(len(run.events)):
                    if i == j or before(run, i, j):
                        clock[run.schedule[i]] = clock.get(run.schedule[i], 0) + 1
                expected.append(clock)
            self.assertEqual(clocks(run), expected)

    def test_an_example(self):
        run = Run(SMALL["store buffering"], "buffers", [0, 0, -1, 1, 1, -2])
        self.assertEqual(clocks(run), [
            {0: 1},
            {0: 2},
            {0: 1, -1: 1},
            {1: 1},
            {0: 1, -1: 1, 1: 2},
            {0: 2, 1: 1, -2: 1},
        ])

    def test_of_no_events(self):
        self.assertEqual(clocks(Run(SMALL["two fences"], "sequential", [])), [])

    def test_new_ones_each_time(self):
        run = Run(SMALL["two fences"], "sequential", [0, 1])
        told = clocks(run)
        told[0][7] = 1
        told.append({})
        self.assertEqual(clocks(run), [{0: 1}, {1: 1}])


class NormalForms(unittest.TestCase):
    def test_the_least_schedule_of_the_class(self):
        for program in SMALL.values():
            for memory in MEMORIES:
                for one in classes_of(program, memory):
                    least = list(min(one))
                    for schedule in one:
                        self.assertEqual(normal_form(Run(program, memory, schedule)), least)

    def test_of_runs_that_are_not_whole(self):
        for run in some_runs():
            self.assertEqual(normal_form(run), list(min(exchanged(run))))

    def test_it_can_be_played_and_is_its_own_normal_form(self):
        for run in some_runs():
            again = Run(run.program, run.memory, normal_form(run))
            self.assertEqual(normal_form(again), again.schedule)
            self.assertTrue(alike(run, again))
            self.assertEqual(again.end(), run.end())

    def test_examples(self):
        self.assertEqual(normal_form(Run(SMALL["two fences"], "sequential", [1, 0])), [0, 1])
        self.assertEqual(normal_form(Run(SMALL["stores of one variable"], "sequential", [1, 0])), [1, 0])
        # Agents are compared as integers: the buffer of the thread 1 is less than that of the thread 0.
        self.assertEqual(normal_form(Run(SMALL["different variables"], "buffers", [0, 1, -1, -2])), [0, -1, 1, -2])
        self.assertEqual(normal_form(Run(SMALL["different variables"], "buffers", [1, 0, -1, -2])), [0, -1, 1, -2])
        self.assertEqual(normal_form(Run(SMALL["different variables"], "buffers", [1, -2])), [1, -2])
        self.assertEqual(normal_form(Run(SMALL["two fences"], "sequential", [])), [])

    def test_a_new_list_each_time_and_the_run_stays(self):
        run = Run(SMALL["two fences"], "sequential", [1, 0])
        normal_form(run).append(5)
        self.assertEqual(normal_form(run), [0, 1])
        self.assertEqual(run.schedule, [1, 0])


class Alike(unittest.TestCase):
    def test_exactly_the_runs_that_exchanging_makes(self):
        for name in ("mutex", "lost counter", "children", "foreign join", "own", "plain race", "different variables"):
            for memory in MEMORIES:
                program = SMALL[name]
                some = [Run(program, memory, schedule) for schedule in whole_schedules(program, memory)[:25]]
                for first in some:
                    one = exchanged(first)
                    for second in some:
                        self.assertIs(alike(first, second), tuple(second.schedule) in one, name)

    def test_exactly_the_runs_with_the_same_events_and_order(self):
        for name in ("store buffering", "loads of one variable", "missed value", "deadlock", "cut"):
            for memory in MEMORIES:
                schedules = sorted(played_machines(SMALL[name], memory))[:40]
                runs = [Run(SMALL[name], memory, schedule) for schedule in schedules]
                told = [(sorted(run.events, key=repr), pairs_before(run)) for run in runs]
                for first, one in zip(runs, told):
                    for second, other in zip(runs, told):
                        self.assertIs(alike(first, second), one == other)

    def test_examples(self):
        def of(name, memory, *schedules):
            return alike(*[Run(SMALL[name], memory, schedule) for schedule in schedules])

        self.assertIs(of("two fences", "sequential", [0, 1], [1, 0]), True)
        self.assertIs(of("two fences", "sequential", [0, 1], [0, 1]), True)
        self.assertIs(of("two fences", "sequential", [0], [1]), False)
        self.assertIs(of("two fences", "sequential", [0], [0, 1]), False)
        self.assertIs(of("two fences", "sequential", [], []), True)
        # The last states are the same, and so are the events, but not their order.
        self.assertIs(of("equal stores", "sequential", [0, 1], [1, 0]), False)
        self.assertIs(of("equal stores", "buffers", [0, 1, -1, -2], [1, 0, -1, -2]), True)
        self.assertIs(of("equal stores", "buffers", [0, 1, -1, -2], [0, 1, -2, -1]), False)
        self.assertIs(of("plain race", "sequential", [0, 1], [1, 0]), False)

    def test_alike_runs_lead_to_the_same_state_by_the_same_events_of_each_agent(self):
        for program in SMALL.values():
            for memory in MEMORIES:
                machines = played_machines(program, memory)
                for one in classes_of(program, memory):
                    first, *others = sorted(one)
                    events = sorted(Run(program, memory, first).events, key=repr)
                    for other in others:
                        self.assertEqual(machines[other].state(), machines[first].state())
                        self.assertEqual(sorted(Run(program, memory, other).events, key=repr), events)

    def test_runs_of_different_memories_or_programs(self):
        first = Run(SMALL["two fences"], "sequential", [0, 1])
        self.assertIs(alike(first, Run(SMALL["two fences"], "buffers", [0, 1])), False)
        self.assertIs(alike(first, Run(make_program((("fence",), ("stop",)), threads=((0, 0), (0, 0))), "sequential",
                                       [0, 1])), False)


if __name__ == "__main__":
    unittest.main()
