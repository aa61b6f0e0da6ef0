"""The explorer: one run of every class (points 16 and 27)."""

import unittest

from everyweave.errors import BadArgument, BadProgram, TooLarge
from everyweave.explorer import explore, turned, turnings
from everyweave.runs import Run, all_runs, normal_form
from everyweave.things import ends
from tests.helpers import MEMORIES, classes_of, make_program, shared
from tests.samples import CLASSES_300, CLASSES_301, FORTY_THREE, SEVEN, SMALL, fences, stores


class EveryClassOnce(unittest.TestCase):
    def test_one_schedule_of_each_class(self):
        for name, program in SMALL.items():
            for memory in MEMORIES:
                with self.subTest(name, memory=memory):
                    schedules, _ = explore(program, memory)
                    self.assertIsInstance(schedules, list)
                    for schedule in schedules:
                        self.assertIsInstance(schedule, list)
                    left = [set(one) for one in classes_of(program, memory)]
                    for schedule in schedules:
                        own = [one for one in left if tuple(schedule) in one]
                        self.assertEqual(len(own), 1)
                        left.remove(own[0])
                    self.assertEqual(left, [])

    def test_the_normal_forms_are_all_runs(self):
        for name, program in SMALL.items():
            for memory in MEMORIES:
                forms = [normal_form(Run(program, memory, schedule)) for schedule in explore(program, memory)[0]]
                self.assertEqual(sorted(forms), all_runs(program, memory), name)

    def test_the_ends_are_all_ends(self):
        larger = make_program(stores(0, 3), stores(0, 2), (("load", 1, 0), ("load", 2, 0)), variables=shared(0),
                              threads=((0, 1), (1, 2), (2, 0)))
        for program in (*SMALL.values(), larger):
            for memory in MEMORIES:
                told = {Run(program, memory, schedule).end() for schedule in explore(program, memory)[0]}
                self.assertEqual(told, set(ends(program, memory)))

    def test_what_begins_with_a_turned_schedule_is_there(self):
        # Where there are too many schedules to try, the turnings still tell whether a class is missing.
        program = make_program((("load", 1, 0), ("store", 1, 0), ("load", 2, 2)), (("store", 0, 0), ("load", 1, 1)),
                               (("fetch", 1, 2, 0), ("lock", 0), ("load", 2, 0), ("unlock", 0)),
                               variables=shared(0, 0, 0), locks=1, threads=((0, 1), (1, 2), (2, 3), (2, 4)))
        schedules, _ = explore(program, "sequential")
        runs = [Run(program, "sequential", schedule) for schedule in schedules]
        self.assertEqual(len({tuple(normal_form(run)) for run in runs}), len(runs))
        known = {tuple(normal_form(Run(program, "sequential", part))) for part in beginnings(runs)}
        for run in runs:
            self.assertTrue(run.whole)
            for i, agent in turnings(run):
                part = normal_form(Run(program, "sequential", turned(run, i, agent)))
                self.assertIn(tuple(part), known)

    def test_a_thread_that_waits_for_ever(self):
        self.assertEqual(sorted(explore(SMALL["taken for ever"], "sequential")[0]), [[0], [1]])
        self.assertEqual(sorted(explore(SMALL["missed value"], "sequential")[0]), [[0, 0, 1], [0, 1, 0], [1]])

    def test_stores_become_different_runs_when_they_reach_the_memory(self):
        self.assertEqual(len(explore(SMALL["store buffering"], "sequential")[0]), 3)
        self.assertEqual(len(explore(SMALL["store buffering"], "buffers")[0]), 4)


def beginnings(runs):
    """Schedules of everything that some schedule of one of the classes begins with."""
    found = set()
    for run in runs:
        waiting = [()]
        while waiting:
            part = waiting.pop()
            if (part, tuple(run.schedule)) in found:
                continue
            found.add((part, tuple(run.schedule)))
            for j in range(len(run.events)):
                past = [i for i in range(len(run.events)) if run.pasts[j] >> i & 1]
                if j not in part and set(past) <= {*part, j}:
                    waiting.append(tuple(sorted((*part, j))))
    return {tuple(schedule[i] for i in part) for part, schedule in found}


class Steps(unittest.TestCase):
    def test_the_different_lists_that_the_schedules_begin_with(self):
        for name, program in SMALL.items():
            for memory in MEMORIES:
                schedules, steps = explore(program, memory)
                lists = {tuple(schedule[:k]) for schedule in schedules for k in range(1, len(schedule) + 1)}
                self.assertEqual(steps, len(lists), name)

    def test_examples(self):
        self.assertEqual(explore(SMALL["nothing to do"], "sequential"), ([[]], 0))
        self.assertEqual(explore(SMALL["one step"], "buffers"), ([[0]], 1))
        self.assertEqual(explore(make_program(fences(3), fences(4)), "sequential")[1], 7)
        self.assertEqual(explore(SMALL["taken for ever"], "sequential")[1], 2)

    def test_lists_that_begin_alike_count_once(self):
        schedules, steps = explore(SMALL["loads of one variable"], "sequential")
        self.assertEqual(len(schedules), 4)
        self.assertLess(steps, sum(len(schedule) for schedule in schedules))


class TooManyClasses(unittest.TestCase):
    def test_the_bound_is_exact(self):
        for memory in MEMORIES:
            schedules, _ = explore(CLASSES_300, memory)
            self.assertEqual(len(schedules), 300)
            self.assertEqual(len({tuple(normal_form(Run(CLASSES_300, memory, one))) for one in schedules}), 300)
            parts = [make_program(*codes, variables=shared(0, 0), threads=((0, 1), (1, 1)))
                     for codes in (FORTY_THREE[memory], SEVEN)]
            self.assertEqual([len(explore(part, memory)[0]) for part in parts], [43, 7])
            with self.assertRaises(TooLarge):
                explore(CLASSES_301[memory], memory)

    def test_it_counts_classes_and_not_schedules_or_states(self):
        program = make_program(fences(8), threads=((0, 0),) * 4)
        for memory in MEMORIES:
            schedules, steps = explore(program, memory)
            self.assertEqual((len(schedules), steps), (1, 32))

    def test_many_threads(self):
        spawning = (("spawn", 1, 1, 0), ("spawn", 2, 1, 0), *fences(6))
        childless = (("spawn", 1, 2, 0), ("spawn", 2, 2, 0), *fences(6))
        program = make_program(spawning, childless, fences(8), threads=((0, 0),) * 4)
        schedules, steps = explore(program, "buffers")
        self.assertEqual((len(schedules), steps), (1, 28 * 8))

    def test_far_above_the_bound(self):
        program = make_program(stores(0, 8), variables=shared(0), threads=((0, 1), (0, 2), (0, 3), (0, 4)))
        for memory in MEMORIES:
            with self.assertRaises(TooLarge):
                explore(program, memory)


class Refused(unittest.TestCase):
    def test_what_is_no_program(self):
        for memory in ("buffers", "graphs"):
            with self.assertRaises(BadProgram):
                explore(((), 0, (), ((0, 0),)), memory)

    def test_other_memories_before_too_large(self):
        for program in (SMALL["one step"], CLASSES_301["sequential"]):
            for memory in ("graphs", "", "buffer"):
                with self.assertRaises(BadArgument):
                    explore(program, memory)


class New(unittest.TestCase):
    def test_new_lists_each_time(self):
        schedules, _ = explore(SMALL["deadlock"], "sequential")
        count = len(schedules)
        schedules[0].append(9)
        schedules.pop()
        again, _ = explore(SMALL["deadlock"], "sequential")
        self.assertEqual(len(again), count)
        self.assertNotIn(9, again[0])


if __name__ == "__main__":
    unittest.main()
