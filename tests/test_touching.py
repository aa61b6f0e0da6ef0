"""Which events touch, with each memory (point 11)."""

import unittest

from everyweave.errors import BadArgument
from everyweave.runs import Run, touching
from tests.helpers import MEMORIES, exchanged, make_program, played_machines, shared
from tests.samples import SMALL


def one_each(*instructions, locks=0, variables=shared(0, 0)):
    """A program in which each thread performs one instruction, and has the argument 0."""
    return make_program(*[(instruction,) for instruction in instructions], locks=locks, variables=variables)


LOAD, OTHER_LOAD = ("load", 1, 0), ("load", 1, 1)
STORE, OTHER_STORE = ("store", 0, 0), ("store", 1, 0)
SWAP, FETCH = ("swap", 1, 0, 0), ("fetch", 1, 0, 0)
HIT = ("cas", 1, 0, 0, 0)
AWAIT = ("await", 1, 0, 0)


class Touching(unittest.TestCase):
    def check(self, program, memory, schedule, expected):
        """Expected is a list of pairs of indexes: exactly these events of different agents touch."""
        run = Run(program, memory, schedule)
        found = []
        for j in range(len(schedule)):
            for i in range(j):
                told = touching(run, i, j)
                self.assertIsInstance(told, bool)
                if schedule[i] == schedule[j]:
                    self.assertTrue(told)
                elif told:
                    found.append((i, j))
        self.assertEqual(sorted(found), sorted(expected))


class OfVariables(Touching):
    def test_pairs_of_accesses(self):
        # With store buffers a store is no access, so it is left out there.
        changes = {"sequential": (STORE, SWAP, FETCH, HIT), "buffers": (SWAP, FETCH, HIT)}
        for memory, changing in changes.items():
            for first in (*changing, LOAD, AWAIT):
                for second in (*changing, LOAD, AWAIT):
                    expected = [(0, 1)] if first in changing or second in changing else []
                    self.check(one_each(first, second), memory, [0, 1], expected)

    def test_a_cas_that_misses(self):
        missing = make_program((("cas", 1, 0, 0, 2),), (LOAD,), (STORE,), (AWAIT,), variables=shared(0),
                               threads=((0, 7), (1, 0), (2, 0), (3, 0)))
        self.check(missing, "sequential", [0, 1, 3, 2], [(0, 3), (1, 3), (2, 3)])
        self.check(missing, "buffers", [0, 1, 3, 2, -3], [(0, 4), (1, 4), (2, 4), (3, 4)])
        two = make_program((("cas", 1, 0, 0, 2),), variables=shared(0), threads=((0, 7), (0, 8)))
        for memory in MEMORIES:
            self.check(two, memory, [0, 1], [])

    def test_a_fetch_whose_sum_is_no_value(self):
        program = make_program((FETCH,), (LOAD,), (SWAP,), variables=shared(999), threads=((0, 1), (1, 0), (2, 0)))
        for memory in MEMORIES:
            self.check(program, memory, [0, 1, 2], [(0, 2), (1, 2)])

    def test_different_variables(self):
        self.check(one_each(STORE, OTHER_STORE), "sequential", [0, 1], [])
        self.check(one_each(STORE, OTHER_LOAD), "sequential", [0, 1], [])
        self.check(one_each(OTHER_LOAD, SWAP), "buffers", [0, 1], [])
        self.check(one_each(STORE, OTHER_STORE), "buffers", [0, 1, -2, -1], [(0, 3), (1, 2)])

    def test_plain_variables(self):
        program = one_each(LOAD, STORE, LOAD, variables=((0, True),))
        self.check(program, "sequential", [0, 1, 2], [(0, 1), (1, 2)])

    def test_a_flush_accesses_and_a_buffer_event_does_not(self):
        program = one_each(STORE, LOAD, AWAIT, STORE)
        self.check(program, "buffers", [0, 1, 2, 3, -1, -4], [(0, 4), (1, 4), (2, 4), (1, 5), (2, 5), (3, 5), (4, 5)])
        self.check(program, "buffers", [0, -1, 1, 2, 3], [(0, 1), (1, 2), (1, 3)])

    def test_stores_of_the_same_value_touch(self):
        self.check(one_each(STORE, STORE), "sequential", [0, 1], [(0, 1)])

    def test_a_variable_and_a_lock_or_a_thread_with_its_number(self):
        program = make_program((STORE,), (("lock", 0),), (("join", 0),), (("join", 3),), variables=shared(0), locks=1,
                               threads=((0, 0), (1, 0), (2, 3), (0, 0)))
        self.check(program, "sequential", [0, 1, 3, 2], [(0, 2), (2, 3)])


class OfLocks(Touching):
    def test_lock_and_unlock_of_one_lock(self):
        code = (("lock", 0), ("unlock", 0))
        for memory in MEMORIES:
            self.check(make_program(code, code, locks=1), memory, [0, 0, 1, 1], [(0, 2), (0, 3), (1, 2), (1, 3)])

    def test_different_locks(self):
        codes = ((("lock", 0), ("unlock", 0)), (("lock", 1), ("unlock", 1)))
        for memory in MEMORIES:
            self.check(make_program(*codes, locks=2), memory, [0, 1, 0, 1], [])

    def test_fences(self):
        for memory in MEMORIES:
            self.check(one_each(("fence",), ("fence",), LOAD), memory, [0, 1, 2], [])

    def test_a_fence_and_a_lock(self):
        for memory in MEMORIES:
            self.check(one_each(("fence",), ("lock", 0), locks=1), memory, [0, 1], [])


class OfThreads(Touching):
    def test_a_spawn_and_events_of_the_thread(self):
        program = make_program((("spawn", 1, 1, 0), ("spawn", 1, 1, 0)), (("fence",), LOAD), variables=shared(0))
        program = (*program[:3], ((0, 0),))
        for memory in MEMORIES:
            self.check(program, memory, [0, 4, 4, 0, 5, 5], [(0, 1), (0, 2), (3, 4), (3, 5)])

    def test_a_join_and_events_of_the_thread(self):
        program = make_program((("fence",), LOAD), (("join", 0),), (("fence",),), variables=shared(0))
        for memory in MEMORIES:
            self.check(program, memory, [2, 0, 0, 1], [(1, 3), (2, 3)])

    def test_a_spawn_and_events_of_the_buffer_of_the_thread(self):
        program = make_program((("spawn", 1, 1, 0), ("fence",)), (STORE,), variables=shared(0), threads=((0, 0),))
        self.check(program, "buffers", [0, 4, 0, -5], [(0, 1), (0, 3), (1, 3)])

    def test_a_join_and_events_of_the_buffer_of_the_thread(self):
        program = make_program((STORE, OTHER_STORE), (("join", 0),), variables=shared(0, 0))
        self.check(program, "buffers", [0, 0, -1, -1, 1], [(0, 2), (1, 3), (0, 4), (1, 4), (2, 4), (3, 4)])

    def test_a_spawn_and_a_join_of_one_thread(self):
        program = make_program((("spawn", 1, 2, 0), ("spawn", 1, 2, 0)), (("join", 0),), (),
                               threads=((0, 0), (1, 4), (1, 5)))
        for memory in MEMORIES:
            self.check(program, memory, [0, 0, 1, 2], [(0, 2), (1, 3)])
            self.check(program, memory, [0, 1, 0, 2], [(0, 1), (2, 3)])

    def test_joins_of_one_thread(self):
        program = make_program((), (("join", 0),), threads=((0, 0), (1, 0), (1, 0)))
        for memory in MEMORIES:
            self.check(program, memory, [1, 2], [])

    def test_spawns_by_different_threads(self):
        program = make_program((("spawn", 1, 1, 0),), (), threads=((0, 0), (0, 0)))
        for memory in MEMORIES:
            self.check(program, memory, [0, 1], [])

    def test_a_join_of_the_thread_that_joins_too(self):
        program = make_program((), (("join", 0),), threads=((0, 0), (1, 0), (1, 1)))
        for memory in MEMORIES:
            self.check(program, memory, [1, 2], [(0, 1)])


class OfBuffers(Touching):
    def test_a_buffer_event_and_the_flush_of_its_pair(self):
        program = make_program((STORE, STORE), variables=shared(0))
        self.check(program, "buffers", [0, 0, -1, -1], [(0, 2), (1, 3)])
        self.check(program, "buffers", [0, -1, 0, -1], [(0, 1), (2, 3)])

    def test_pairs_of_different_variables(self):
        program = make_program((STORE, OTHER_STORE, STORE), variables=shared(0, 0))
        self.check(program, "buffers", [0, 0, 0, -1, -1, -1], [(0, 3), (1, 4), (2, 5)])

    def test_own_events_and_the_flush_of_the_pair_they_read(self):
        program = make_program((STORE, STORE, LOAD, AWAIT), variables=shared(0))
        self.check(program, "buffers", [0, 0, 0, 0, -1, -1], [(0, 4), (1, 5), (2, 5), (3, 5)])
        self.check(program, "buffers", [0, 0, -1, 0, 0, -1], [(0, 2), (1, 5), (3, 5), (4, 5)])

    def test_own_events_of_the_last_pair_with_the_variable(self):
        program = make_program((STORE, OTHER_STORE, LOAD, ("load", 2, 1)), variables=shared(0, 0))
        self.check(program, "buffers", [0, 0, 0, 0, -1, -1], [(0, 4), (2, 4), (1, 5), (3, 5)])

    def test_own_events_of_a_thread_whose_buffer_was_emptied_before(self):
        program = make_program((STORE, STORE, LOAD), variables=shared(0))
        self.check(program, "buffers", [0, -1, 0, 0, -1], [(0, 1), (2, 4), (3, 4)])

    def test_own_events_do_not_access_the_memory(self):
        program = make_program((STORE, LOAD, AWAIT), (STORE,), variables=shared(0))
        self.check(program, "buffers", [0, 1, -2, 0, 0, -1], [(0, 5), (1, 2), (2, 5), (3, 5), (4, 5)])

    def test_a_load_from_the_memory_and_flushes_of_the_own_buffer(self):
        program = make_program((STORE, ("load", 2, 0), OTHER_LOAD), variables=shared(0, 0))
        self.check(program, "buffers", [0, -1, 0, 0], [(0, 1), (1, 2)])
        program = make_program((OTHER_STORE, LOAD), variables=shared(0, 0))
        self.check(program, "buffers", [0, 0, -1], [(0, 2)])
        program = make_program((LOAD, STORE), variables=shared(0))
        self.check(program, "buffers", [0, 0, -1], [(0, 2), (1, 2)])

    def test_a_flush_and_what_needs_an_empty_buffer(self):
        needy = (("swap", 1, 1, 0), ("fetch", 1, 1, 0), ("cas", 1, 1, 0, 0), ("cas", 1, 1, 3, 0), ("fence",),
                 ("lock", 0), ("spawn", 1, 1, 0), ("join", 3))
        for instruction in needy:
            code = (("const", 3, 2), STORE, instruction)
            program = make_program(code, (), (("load", 1, 1),), variables=shared(0, 0), locks=1,
                                   threads=((0, 0), (2, 0), (1, 0)))
            with self.subTest(instruction):
                if instruction[0] in ("swap", "fetch") or instruction == ("cas", 1, 1, 0, 0):
                    self.check(program, "buffers", [0, -1, 1, 0], [(0, 1), (1, 3), (2, 3)])
                else:
                    self.check(program, "buffers", [0, -1, 1, 0], [(0, 1), (1, 3)])

    def test_an_unlock_needs_an_empty_buffer(self):
        program = make_program((("lock", 0), STORE, ("unlock", 0)), variables=shared(0), locks=1)
        self.check(program, "buffers", [0, 0, -1, 0], [(1, 2), (2, 3)])

    def test_every_flush_before_it_touches(self):
        program = make_program((STORE, OTHER_STORE, ("fence",)), variables=shared(0, 0))
        self.check(program, "buffers", [0, 0, -1, -1, 0], [(0, 2), (1, 3), (2, 4), (3, 4)])

    def test_a_flush_and_what_needs_no_empty_buffer(self):
        program = make_program((STORE, OTHER_STORE, OTHER_LOAD), variables=shared(0, 0))
        self.check(program, "buffers", [0, -1, 0, 0, -1], [(0, 1), (2, 4), (3, 4)])
        program = make_program((STORE, OTHER_LOAD, ("await", 1, 1, 0)), variables=shared(0, 0))
        self.check(program, "buffers", [0, -1, 0, 0], [(0, 1)])

    def test_a_flush_and_a_fence_of_another_thread(self):
        program = make_program((STORE,), (("fence",),), variables=shared(0))
        self.check(program, "buffers", [0, -1, 1], [(0, 1)])

    def test_what_needs_an_empty_buffer_and_a_later_flush(self):
        program = make_program((("fence",), STORE), variables=shared(0))
        self.check(program, "buffers", [0, 0, -1], [(1, 2)])


class Indexes(unittest.TestCase):
    def test_indexes_that_are_not_taken(self):
        run = Run(SMALL["store buffering"], "sequential", [0, 1, 0])
        for i, j in ((0, 0), (2, 2), (1, 0), (2, 1), (-1, 0), (-1, 2), (0, -1), (-2, -1), (0, 3), (2, 3), (3, 4),
                     (3, 3), (0, 10 ** 20)):
            with self.subTest(i=i, j=j):
                with self.assertRaises(BadArgument):
                    touching(run, i, j)

    def test_a_run_without_events(self):
        run = Run(SMALL["store buffering"], "sequential", [])
        for i, j in ((0, 0), (0, 1), (-1, 0)):
            with self.assertRaises(BadArgument):
                touching(run, i, j)


class Exchanging(unittest.TestCase):
    def test_neighbours_that_do_not_touch_can_be_exchanged(self):
        for name, program in SMALL.items():
            for memory in MEMORIES:
                machines = played_machines(program, memory)
                for schedule, machine in machines.items():
                    for other in exchanged(Run(program, memory, schedule)):
                        self.assertEqual(machines[other].state(), machine.state(), name)

    def test_an_event_that_is_another_one_without_the_event_before_it_touches_that(self):
        for name, program in SMALL.items():
            for memory in MEMORIES:
                machines = played_machines(program, memory)
                for schedule in machines:
                    if len(schedule) < 2 or schedule[-2] == schedule[-1]:
                        continue
                    run = Run(program, memory, schedule)
                    if machines[schedule[:-2]].label(schedule[-1]) != run.events[-1]:
                        self.assertTrue(touching(run, len(schedule) - 2, len(schedule) - 1), name)


if __name__ == "__main__":
    unittest.main()
