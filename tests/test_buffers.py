"""The memory with store buffers (point 7)."""

import unittest

from everyweave.machine import Machine
from tests.helpers import events_of, machine_behind, make_program, row_of, shared


def with_store(*more, locks=1, argument=5):
    """A thread that stores its argument in the first variable and goes on with other instructions."""
    return make_program((("store", 0, 0), *more), (), variables=shared(0, 0), locks=locks, threads=((0, argument),))


class Buffers(unittest.TestCase):
    def test_a_store_waits_in_the_buffer(self):
        machine = machine_behind(with_store(), "buffers", [0])
        self.assertEqual(machine.end()[1], (0, 0))
        self.assertEqual(machine.able(), [-1])
        machine.step(-1)
        self.assertEqual(machine.end()[1], (5, 0))
        self.assertEqual(machine.able(), [])

    def test_the_first_pair_is_taken_out_first(self):
        code = (("store", 0, 0), ("const", 0, 6), ("store", 1, 0), ("const", 0, 7), ("store", 0, 0))
        program = make_program(code, variables=shared(0, 0), threads=((0, 5),))
        machine = machine_behind(program, "buffers", [0, 0, 0])
        values = []
        for _ in range(3):
            machine.step(-1)
            values.append(machine.end()[1])
        self.assertEqual(values, [(5, 0), (5, 6), (7, 6)])
        self.assertEqual(machine.able(), [])

    def test_a_store_may_stand_behind_others(self):
        machine = machine_behind(with_store(("store", 0, 0), ("store", 1, 0)), "buffers", [0, 0, 0])
        self.assertEqual(machine.able(), [-1])

    def test_agents_of_buffers_stand_first_and_ascend(self):
        code = (("store", 0, 0), ("fence",))
        program = make_program(code, variables=shared(0), threads=((0, 1), (0, 2), (0, 3)))
        machine = machine_behind(program, "buffers", [0, 2])
        self.assertEqual(machine.able(), [-3, -1, 1])
        machine.step(-3)
        self.assertEqual(machine.able(), [-1, 1, 2])

    def test_the_buffer_of_a_child(self):
        program = make_program((("spawn", 1, 1, 0),), (("store", 0, 0),), variables=shared(0), threads=((0, 9),))
        machine = machine_behind(program, "buffers", [0])
        self.assertIsNone(machine.label(-5))
        machine.step(4)
        self.assertEqual(machine.able(), [-5])
        self.assertEqual(machine.step(-5), (-5, 0, "flush", 0, None, 9))

    def test_both_may_load_before_both_stores_are_seen(self):
        left = (("const", 1, 1), ("store", 0, 1), ("load", 2, 1))
        right = (("const", 1, 1), ("store", 1, 1), ("load", 2, 0))
        program = make_program(left, right, variables=shared(0, 0))
        machine = machine_behind(program, "buffers", [0, 0, 1, 1, -1, -2])
        self.assertEqual([row[2][2] for row in machine.end()[0]], [0, 0])

    def test_two_steps_of_flushing_are_told_apart(self):
        events = events_of(with_store(("store", 1, 0)), "buffers", [0, 0, -1, -1])
        self.assertEqual(events[2:], [(-1, 0, "flush", 0, None, 5), (-1, 1, "flush", 1, None, 5)])


class OwnValues(unittest.TestCase):
    def test_load_takes_the_last_own_value(self):
        code = (("store", 0, 0), ("const", 0, 6), ("store", 0, 0), ("store", 1, 1), ("load", 2, 0), ("load", 3, 0))
        program = make_program(code, variables=shared(1, 2), threads=((0, 5),))
        machine = machine_behind(program, "buffers", [0, 0, 0])
        self.assertEqual(machine.step(0), (0, 3, "own", 0, 6, None))
        machine.step(-1)
        self.assertEqual(machine.step(0), (0, 4, "own", 0, 6, None))
        self.assertEqual(row_of(machine, 0), ("finished", (6, 0, 6, 6)))

    def test_load_takes_the_memory_when_the_pair_is_out(self):
        machine = machine_behind(with_store(("load", 1, 0)), "buffers", [0, -1])
        self.assertEqual(machine.step(0), (0, 1, "load", 0, 5, None))

    def test_load_of_another_variable_takes_the_memory(self):
        machine = machine_behind(with_store(("load", 1, 1)), "buffers", [0])
        self.assertEqual(machine.step(0), (0, 1, "load", 1, 0, None))
        self.assertEqual(machine.able(), [-1])

    def test_load_does_not_see_another_buffer(self):
        program = make_program((("store", 0, 0),), (("load", 1, 0),), variables=shared(0), threads=((0, 5), (1, 0)))
        self.assertEqual(events_of(program, "buffers", [0, 1])[1], (1, 0, "load", 0, 0, None))
        self.assertEqual(events_of(program, "buffers", [0, -1, 1])[2], (1, 0, "load", 0, 5, None))

    def test_an_own_value_of_nought(self):
        program = make_program((("store", 0, 0), ("load", 1, 0)), variables=shared(4))
        self.assertEqual(events_of(program, "buffers", [0, 0])[1], (0, 1, "own", 0, 0, None))

    def test_await_takes_the_own_value(self):
        machine = machine_behind(with_store(("await", 1, 0, 0)), "buffers", [0])
        self.assertEqual(machine.able(), [-1, 0])
        self.assertEqual(machine.step(0), (0, 1, "ownawait", 0, 5, None))
        self.assertEqual(row_of(machine, 0), ("finished", (5, 1, 0, 0)))
        self.assertEqual(machine.end()[1], (0, 0))

    def test_await_waits_for_an_own_value_that_differs(self):
        program = with_store(("await", 2, 0, 1))
        machine = Machine(program, "buffers")
        machine.step(0)
        self.assertEqual(machine.able(), [-1])
        machine.step(-1)
        self.assertEqual(machine.able(), [])

    def test_await_of_the_memory_with_a_full_buffer(self):
        machine = machine_behind(with_store(("await", 2, 1, 1)), "buffers", [0])
        self.assertEqual(machine.able(), [-1, 0])
        self.assertEqual(machine.step(0), (0, 1, "await", 1, 0, None))

    def test_await_of_the_memory_behind_the_flush(self):
        machine = machine_behind(with_store(("await", 1, 0, 0)), "buffers", [0, -1])
        self.assertEqual(machine.step(0), (0, 1, "await", 0, 5, None))

    def test_await_waits_for_another_buffer(self):
        waiting = (("await", 1, 0, 0),)
        program = make_program(waiting, (("store", 0, 0),), variables=shared(0), threads=((0, 5), (1, 5)))
        machine = machine_behind(program, "buffers", [1])
        self.assertEqual(machine.able(), [-2])
        machine.step(-2)
        self.assertEqual(machine.able(), [0])


class EmptyBuffers(unittest.TestCase):
    EVENTS = (
        (("swap", 1, 0, 0), ("update", 0, 5, 5)),
        (("fetch", 1, 0, 0), ("update", 0, 5, 10)),
        (("cas", 1, 0, 0, 1), ("update", 0, 5, 0)),
        (("cas", 1, 0, 1, 0), ("miss", 0, 5, None)),
        (("swap", 1, 1, 0), ("update", 1, 0, 5)),
        (("fence",), ("fence", None, None, None)),
        (("lock", 0), ("lock", 0, None, None)),
        (("spawn", 1, 1, 0), ("spawn", 4, None, 5)),
    )

    def test_each_instruction_that_needs_an_empty_buffer(self):
        for instruction, told in self.EVENTS:
            with self.subTest(instruction):
                machine = machine_behind(with_store(instruction), "buffers", [0])
                self.assertEqual(machine.able(), [-1])
                self.assertIsNone(machine.label(0))
                machine.step(-1)
                self.assertEqual(machine.able(), [0])
                self.assertEqual(machine.step(0), (0, 1, *told))

    def test_what_changes_the_memory_at_once(self):
        for instruction, value in ((("swap", 1, 1, 0), 5), (("fetch", 1, 1, 0), 5), (("cas", 1, 1, 1, 0), 5)):
            machine = machine_behind(with_store(instruction), "buffers", [0, -1, 0])
            self.assertEqual(machine.end()[1], (5, value))
            self.assertEqual(machine.able(), [])

    def test_unlock(self):
        code = (("lock", 0), ("store", 0, 0), ("unlock", 0))
        machine = machine_behind(make_program(code, variables=shared(0), locks=1), "buffers", [0, 0])
        self.assertEqual(machine.able(), [-1])
        machine.step(-1)
        self.assertEqual(machine.step(0), (0, 2, "unlock", 0, None, None))

    def test_a_buffer_of_another_thread_does_not_matter(self):
        codes = ((("store", 0, 0),), (("fence",), ("lock", 0), ("swap", 0, 0, 0)))
        machine = machine_behind(make_program(*codes, variables=shared(0), locks=1), "buffers", [0])
        for _ in range(3):
            self.assertEqual(machine.able(), [-1, 1])
            machine.step(1)

    def test_join_with_the_own_buffer(self):
        program = make_program((("store", 0, 0), ("join", 0)), (), variables=shared(0), threads=((0, 1), (1, 0)))
        machine = machine_behind(program, "buffers", [0])
        self.assertEqual(machine.able(), [-1])
        machine.step(-1)
        self.assertEqual(machine.step(0), (0, 1, "join", 1, None, None))

    def test_join_with_the_buffer_of_the_other_thread(self):
        program = make_program((("join", 0),), (("store", 0, 0),), variables=shared(0), threads=((0, 1), (1, 0)))
        machine = machine_behind(program, "buffers", [1])
        self.assertEqual(row_of(machine, 1)[0], "finished")
        self.assertEqual(machine.able(), [-2])
        machine.step(-2)
        self.assertEqual(machine.able(), [0])

    def test_join_with_an_empty_buffer_of_a_thread_that_goes_on(self):
        codes = ((("join", 0),), (("store", 0, 0), ("fence",)))
        program = make_program(*codes, variables=shared(0), threads=((0, 1), (1, 0)))
        machine = machine_behind(program, "buffers", [1, -2])
        self.assertEqual(machine.able(), [1])

    def test_joins_that_wait_for_ever(self):
        for number in (-1, 0, 4, 28):
            machine = Machine(make_program((("join", 0),), threads=((0, number),)), "buffers")
            self.assertEqual(machine.able(), [])

    def test_a_lock_that_is_taken(self):
        code = (("lock", 0),)
        machine = machine_behind(make_program(code, code, locks=1), "buffers", [1])
        self.assertEqual(machine.able(), [])


class BuffersOfTheDead(unittest.TestCase):
    def test_a_thread_that_has_finished(self):
        machine = machine_behind(with_store(), "buffers", [0])
        self.assertEqual(machine.end(), (((0, "finished", (5, 0, 0, 0)),), (0, 0), (None,)))
        self.assertEqual(machine.able(), [-1])

    def test_a_thread_that_is_cut(self):
        code = (("store", 0, 0),) * 9
        machine = machine_behind(make_program(code, variables=shared(0), threads=((0, 2),)), "buffers", [0] * 8)
        self.assertEqual(row_of(machine, 0)[0], "cut")
        for number in range(8):
            self.assertEqual(machine.able(), [-1])
            self.assertEqual(machine.step(-1), (-1, number, "flush", 0, None, 2))
        self.assertEqual(machine.able(), [])


if __name__ == "__main__":
    unittest.main()
