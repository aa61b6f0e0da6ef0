"""The sequential memory: what waits, and which agents can make a step (point 6)."""

import unittest

from everyweave.machine import Machine
from tests.helpers import events_of, machine_behind, make_program, row_of, shared


class Waiting(unittest.TestCase):
    def test_able_is_ascending_whatever_was_spawned_first(self):
        spawning = (("spawn", 1, 1, 0), ("fence",))
        program = make_program(spawning, (("fence",),), threads=((0, 0), (0, 0), (1, 0)))
        machine = machine_behind(program, "sequential", [1, 0])
        self.assertEqual(machine.able(), [0, 1, 2, 4, 6])

    def test_able_is_a_new_list(self):
        machine = Machine(make_program((("fence",),)), "sequential")
        machine.able().append(7)
        machine.able().clear()
        self.assertEqual(machine.able(), [0])

    def test_there_are_no_agents_of_buffers(self):
        program = make_program((("store", 0, 0),), variables=shared(0), threads=((0, 5),))
        machine = machine_behind(program, "sequential", [0])
        self.assertEqual(machine.end()[1], (5,))
        self.assertEqual(machine.able(), [])
        self.assertIsNone(machine.label(-1))

    def test_lock(self):
        code = (("lock", 0), ("fence",), ("unlock", 0))
        machine = Machine(make_program(code, code, (("lock", 1),), locks=2), "sequential")
        self.assertEqual(machine.able(), [0, 1, 2])
        machine.step(1)
        self.assertEqual(machine.able(), [1, 2])
        machine.step(1)
        self.assertEqual(machine.able(), [1, 2])
        machine.step(1)
        self.assertEqual(machine.able(), [0, 2])

    def test_lock_of_a_lock_that_the_thread_holds(self):
        machine = machine_behind(make_program((("lock", 0), ("lock", 0)), locks=1), "sequential", [0])
        self.assertEqual(machine.able(), [])
        self.assertEqual(row_of(machine, 0)[0], "waiting")

    def test_two_threads_that_wait_for_each_other(self):
        codes = ((("lock", 0), ("lock", 1)), (("lock", 1), ("lock", 0)))
        machine = machine_behind(make_program(*codes, locks=2), "sequential", [0, 1])
        self.assertEqual(machine.able(), [])
        self.assertEqual(machine.end()[2], (0, 1))

    def test_await(self):
        waiting = (("const", 1, 2), ("await", 2, 0, 1))
        storing = (("const", 1, 2), ("store", 0, 1), ("store", 0, 2))
        machine = Machine(make_program(waiting, storing, variables=shared(0)), "sequential")
        self.assertEqual(machine.able(), [1])
        machine.step(1)
        self.assertEqual(machine.able(), [0, 1])
        machine.step(1)
        self.assertEqual(machine.able(), [])
        self.assertEqual(row_of(machine, 0), ("waiting", (0, 2, 0, 0)))

    def test_await_of_the_first_value(self):
        program = make_program((("await", 1, 0, 0),), variables=shared(-4), threads=((0, -4), (0, 4)))
        self.assertEqual(Machine(program, "sequential").able(), [0])

    def test_join_of_a_thread_that_has_ended_or_not(self):
        program = make_program((("join", 0),), (("fence",), ("fence",)), threads=((0, 1), (1, 0)))
        machine = Machine(program, "sequential")
        self.assertEqual(machine.able(), [1])
        machine.step(1)
        self.assertEqual(machine.able(), [1])
        machine.step(1)
        self.assertEqual(machine.able(), [0])

    def test_join_of_a_thread_that_has_failed(self):
        program = make_program((("join", 0),), (("assert", 1),), threads=((0, 1), (1, 0)))
        self.assertEqual(Machine(program, "sequential").able(), [0])

    def test_join_of_a_thread_that_is_not_there_yet(self):
        spawning = (("spawn", 1, 2, 0),)
        program = make_program((("join", 0),), spawning, (), threads=((0, 6), (1, 0)))
        machine = Machine(program, "sequential")
        self.assertEqual(machine.able(), [1])
        machine.step(1)
        self.assertEqual(machine.able(), [0])

    def test_join_of_what_is_never_there(self):
        for number in (-999, -1, 0, 1, 5, 27, 28, 999):
            machine = Machine(make_program((("join", 0),), threads=((0, number),)), "sequential")
            self.assertEqual(machine.able(), [])
            self.assertEqual(row_of(machine, 0)[0], "waiting")

    def test_other_instructions_never_wait(self):
        codes = (("load", 0, 0), ("store", 0, 0), ("swap", 0, 0, 0), ("fetch", 0, 0, 0),
                 ("cas", 0, 0, 0, 0), ("fence",), ("spawn", 0, 0, 0))
        for instruction in codes:
            program = make_program((instruction, ("fence",)), variables=shared(4))
            self.assertEqual(Machine(program, "sequential").able(), [0])


class Playing(unittest.TestCase):
    def test_two_threads_that_add_without_care(self):
        code = (("load", 1, 0), ("const", 2, 1), ("add", 1, 1, 2), ("store", 0, 1))
        program = make_program(code, variables=shared(0), threads=((0, 0), (0, 0)))
        self.assertEqual(machine_behind(program, "sequential", [0, 0, 1, 1]).end()[1], (2,))
        self.assertEqual(machine_behind(program, "sequential", [0, 1, 0, 1]).end()[1], (1,))

    def test_a_store_is_seen_at_once(self):
        program = make_program((("store", 0, 0),), (("load", 1, 0),), variables=shared(0), threads=((0, 3), (1, 0)))
        self.assertEqual(events_of(program, "sequential", [0, 1]), [
            (0, 0, "store", 0, None, 3),
            (1, 0, "load", 0, 3, None),
        ])

    def test_both_may_load_before_both_store_only_one_may_in_the_sequential_memory(self):
        left = (("const", 1, 1), ("store", 0, 1), ("load", 2, 1))
        right = (("const", 1, 1), ("store", 1, 1), ("load", 2, 0))
        program = make_program(left, right, variables=shared(0, 0))
        for schedule in ([0, 0, 1, 1], [0, 1, 0, 1], [0, 1, 1, 0], [1, 0, 0, 1], [1, 0, 1, 0], [1, 1, 0, 0]):
            machine = machine_behind(program, "sequential", schedule)
            loaded = [row[2][2] for row in machine.end()[0]]
            self.assertIn(1, loaded)


if __name__ == "__main__":
    unittest.main()
