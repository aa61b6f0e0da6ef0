"""All runs, by trying every schedule (point 14)."""

import unittest

from everyweave.errors import BadArgument, BadProgram, TooLarge
from everyweave.runs import Run, all_runs, normal_form
from tests.helpers import MEMORIES, classes_of, make_program, played_machines, whole_schedules
from tests.samples import SMALL, TRIED_3000, TRIED_3001, fences


class AllRuns(unittest.TestCase):
    def test_the_least_schedule_of_each_class(self):
        for name, program in SMALL.items():
            for memory in MEMORIES:
                with self.subTest(name, memory=memory):
                    expected = sorted(list(min(one)) for one in classes_of(program, memory))
                    self.assertEqual(all_runs(program, memory), expected)

    def test_the_normal_forms_of_all_whole_schedules(self):
        for name, program in SMALL.items():
            for memory in MEMORIES:
                runs = [Run(program, memory, schedule) for schedule in whole_schedules(program, memory)]
                forms = {tuple(normal_form(run)) for run in runs}
                self.assertEqual(all_runs(program, memory), [list(form) for form in sorted(forms)], name)

    def test_examples(self):
        self.assertEqual(all_runs(SMALL["nothing to do"], "sequential"), [[]])
        self.assertEqual(all_runs(SMALL["two fences"], "buffers"), [[0, 1]])
        self.assertEqual(all_runs(SMALL["stores of one variable"], "sequential"), [[0, 1], [1, 0]])
        self.assertEqual(all_runs(SMALL["stores of one variable"], "buffers"), [[0, -1, 1, -2], [0, 1, -2, -1]])
        self.assertEqual(all_runs(SMALL["deadlock"], "sequential"), [[0, 0, 0, 0, 1, 1], [0, 1], [1, 1]])
        self.assertEqual(all_runs(SMALL["store buffering"], "sequential"),
                         [[0, 0, 1, 1], [0, 1, 0, 1], [1, 1, 0, 0]])

    def test_new_lists_each_time(self):
        told = all_runs(SMALL["deadlock"], "sequential")
        told[0].append(9)
        told.pop()
        self.assertEqual(len(all_runs(SMALL["deadlock"], "sequential")), 3)
        self.assertEqual(all_runs(SMALL["deadlock"], "sequential")[0], [0, 0, 0, 0, 1, 1])


class TooLong(unittest.TestCase):
    def test_the_bound_is_exact(self):
        for memory in MEMORIES:
            self.assertEqual(len(played_machines(TRIED_3000, memory)), 3000)
            self.assertEqual(len(played_machines(TRIED_3001, memory)), 3001)
            self.assertGreater(len(all_runs(TRIED_3000, memory)), 0)
            with self.assertRaises(TooLarge):
                all_runs(TRIED_3001, memory)

    def test_it_counts_schedules_and_not_states(self):
        with self.assertRaises(TooLarge):
            all_runs(make_program(fences(6), fences(6)), "sequential")
        self.assertEqual(all_runs(make_program(fences(5), fences(6)), "sequential"), [[0] * 5 + [1] * 6])

    def test_far_above_the_bound(self):
        with self.assertRaises(TooLarge):
            all_runs(make_program(fences(8), threads=((0, 0),) * 4), "buffers")


class Refused(unittest.TestCase):
    def test_what_is_no_program(self):
        for memory in ("sequential", "graphs"):
            with self.assertRaises(BadProgram):
                all_runs(((), 3, ((),), ((0, 0),)), memory)

    def test_other_memories_before_too_large(self):
        for program in (SMALL["one step"], TRIED_3001):
            with self.assertRaises(BadArgument):
                all_runs(program, "graphs")


if __name__ == "__main__":
    unittest.main()
