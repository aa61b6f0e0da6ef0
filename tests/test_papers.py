"""Papers: lists with exactly one schedule of each class of whole runs (points 17 and 27)."""

import unittest

from everyweave.errors import BadArgument, BadProgram, TooLarge
from everyweave.explorer import explore, is_paper, turned, turnings
from everyweave.runs import Run, all_runs
from tests.helpers import MEMORIES, classes_of, exchanged, make_program
from tests.samples import CLASSES_300, CLASSES_301, SMALL, fences


class Papers(unittest.TestCase):
    def test_what_the_explorer_tells(self):
        for name, program in SMALL.items():
            for memory in MEMORIES:
                self.assertIs(is_paper(program, memory, explore(program, memory)[0]), True, name)

    def test_all_runs(self):
        for name, program in SMALL.items():
            for memory in MEMORIES:
                self.assertIs(is_paper(program, memory, all_runs(program, memory)), True, name)
                self.assertIs(is_paper(program, memory, all_runs(program, memory)[::-1]), True, name)

    def test_alike_schedules_in_their_place(self):
        for name, program in SMALL.items():
            for memory in MEMORIES:
                classes = [sorted(one) for one in classes_of(program, memory)]
                for at in range(3):
                    chosen = [list(one[at * (len(one) - 1) // 2]) for one in classes]
                    self.assertIs(is_paper(program, memory, chosen), True, name)

    def test_a_schedule_left_out(self):
        for name, program in SMALL.items():
            for memory in MEMORIES:
                paper = all_runs(program, memory)
                for at in range(len(paper)):
                    self.assertIs(is_paper(program, memory, paper[:at] + paper[at + 1:]), False, name)

    def test_a_schedule_doubled(self):
        for name, program in SMALL.items():
            for memory in MEMORIES:
                paper = all_runs(program, memory)
                for at in range(len(paper)):
                    self.assertIs(is_paper(program, memory, paper + [paper[at]]), False, name)

    def test_an_alike_schedule_more(self):
        program = SMALL["store buffering"]
        for memory in MEMORIES:
            paper = all_runs(program, memory)
            for schedule in exchanged(Run(program, memory, paper[1])):
                self.assertIs(is_paper(program, memory, paper + [list(schedule)]), False)
                self.assertIs(is_paper(program, memory, [paper[0], list(schedule), *paper[2:]]), True)
                self.assertIs(is_paper(program, memory, [list(schedule), *paper[1:]]), False)

    def test_a_schedule_cut_short(self):
        for name, program in SMALL.items():
            for memory in MEMORIES:
                paper = all_runs(program, memory)
                for at, schedule in enumerate(paper):
                    for many in range(len(schedule)):
                        shorter = [*paper[:at], schedule[:many], *paper[at + 1:]]
                        self.assertIs(is_paper(program, memory, shorter), False, name)

    def test_a_schedule_that_cannot_be_played(self):
        for memory in MEMORIES:
            self.assertIs(is_paper(SMALL["two fences"], memory, [[0, 0]]), False)
            self.assertIs(is_paper(SMALL["two fences"], memory, [[0, 1, 0]]), False)
            self.assertIs(is_paper(SMALL["two fences"], memory, [[0, 1, 2]]), False)
            self.assertIs(is_paper(SMALL["two fences"], memory, [[0, 1, -1]]), False)
            self.assertIs(is_paper(SMALL["two fences"], memory, [[10 ** 30]]), False)
            self.assertIs(is_paper(SMALL["two fences"], memory, [[0, 1]]), True)
            self.assertIs(is_paper(SMALL["two fences"], memory, [[0, 1], [2]]), False)
            self.assertIs(is_paper(SMALL["plain race"], memory, [[], []]), False)

    def test_no_schedule_at_all(self):
        for name, program in SMALL.items():
            for memory in MEMORIES:
                self.assertIs(is_paper(program, memory, []), False, name)
        self.assertIs(is_paper(SMALL["nothing to do"], "buffers", [[]]), True)
        self.assertIs(is_paper(SMALL["nothing to do"], "buffers", [[], []]), False)

    def test_by_turnings(self):
        # A list of whole runs has all classes exactly if it has what begins with each turned schedule.
        for name in ("store buffering", "missed value", "children", "own", "mutex"):
            for memory in MEMORIES:
                program = SMALL[name]
                classes = classes_of(program, memory)
                for left_out in range(len(classes)):
                    some = classes[:left_out] + classes[left_out + 1:]
                    self.assertEqual(is_closed(program, memory, some), some == [], name)
                self.assertTrue(is_closed(program, memory, classes), name)

    def test_nothing_is_changed(self):
        paper = [[1, 0], [0, 1]]
        self.assertIs(is_paper(SMALL["plain race"], "sequential", paper), True)
        self.assertEqual(paper, [[1, 0], [0, 1]])


def is_closed(program, memory, classes):
    """True if for each run and turning some schedule of the classes begins with the turned schedule."""
    known = {schedule[:k] for one in classes for schedule in one for k in range(len(schedule) + 1)}
    for one in classes:
        run = Run(program, memory, min(one))
        for turning in turnings(run):
            if tuple(turned(run, *turning)) not in known:
                return False
    return True


class NoLists(unittest.TestCase):
    def test_what_is_no_list_of_lists_of_integers(self):
        program = SMALL["two fences"]
        wrong = (None, 0, True, "", "01", (), {}, set(), ([0, 1],), ((0, 1),), [(0, 1)], [0, 1], [[0, 1], None], [None],
                 [[0, True]], [[False, 1]], [[False, True]], [["0", "1"]], ["01"], [[0, 1.0]], [[0, None]], [[0, [1]]],
                 {0: [0, 1]}, [{0: 1}], [[[0, 1]]], [range(2)], range(2), [[0, 1], ()])
        for schedules in wrong:
            for memory in MEMORIES:
                with self.subTest(schedules=schedules, memory=memory):
                    self.assertIs(is_paper(program, memory, schedules), False)

    def test_before_too_large(self):
        for memory in MEMORIES:
            for schedules in (None, ((),), [()], [[True]], [[0], "0"]):
                self.assertIs(is_paper(CLASSES_301[memory], memory, schedules), False)


class Bounds(unittest.TestCase):
    def test_three_hundred_classes(self):
        for memory in MEMORIES:
            paper = explore(CLASSES_300, memory)[0]
            self.assertIs(is_paper(CLASSES_300, memory, paper), True)
            self.assertIs(is_paper(CLASSES_300, memory, paper[1:]), False)
            self.assertIs(is_paper(CLASSES_300, memory, paper[1:] + paper[-1:]), False)

    def test_more_classes_whatever_the_list(self):
        for memory in MEMORIES:
            for schedules in ([], [[]], [[0, 0]], [[99]]):
                with self.assertRaises(TooLarge):
                    is_paper(CLASSES_301[memory], memory, schedules)

    def test_many_schedules_of_one_class(self):
        program = make_program(fences(8), fences(8), fences(8))
        self.assertIs(is_paper(program, "buffers", [[0, 1, 2] * 8]), True)
        self.assertIs(is_paper(program, "buffers", [[0, 1, 2] * 8, [2, 1, 0] * 8]), False)


class Refused(unittest.TestCase):
    def test_what_is_no_program(self):
        for memory in ("sequential", "graphs"):
            for schedules in ([], None, [[0]]):
                with self.assertRaises(BadProgram):
                    is_paper(((), 0, ((),), ()), memory, schedules)

    def test_other_memories(self):
        for schedules in ([], None, [[0, 1]]):
            with self.assertRaises(BadArgument):
                is_paper(SMALL["two fences"], "graphs", schedules)
        with self.assertRaises(BadArgument):
            is_paper(CLASSES_301["buffers"], "graphs", [])


if __name__ == "__main__":
    unittest.main()
