"""Instructions, numbers of threads, steps and the ways of a thread to its end (points 3, 4 and 5)."""

import unittest

from everyweave.machine import Machine
from tests.helpers import MEMORIES, events_of, machine_behind, make_program, row_of, shared


def ended_by(code, argument=0):
    """How a thread stands that runs the code alone without visible instructions, and its registers."""
    return row_of(Machine(make_program(code, threads=((0, argument),)), "sequential"), 0)


class LocalInstructions(unittest.TestCase):
    def test_a_thread_begins_with_its_argument(self):
        self.assertEqual(ended_by((), 7), ("finished", (7, 0, 0, 0)))

    def test_const_and_copy(self):
        self.assertEqual(ended_by((("const", 3, -999), ("copy", 1, 3))), ("finished", (0, -999, 0, -999)))

    def test_sums_differences_and_products(self):
        begin = (("const", 1, 20), ("const", 2, -7))
        for word, result in (("add", 13), ("sub", 27), ("mul", -140)):
            self.assertEqual(ended_by(begin + ((word, 3, 1, 2),)), ("finished", (0, 20, -7, result)))

    def test_eq_and_less(self):
        for left, right, equal, less in ((1, 2, 0, 1), (2, 2, 1, 0), (3, 2, 0, 0), (-5, -4, 0, 1)):
            begin = (("const", 1, right),)
            self.assertEqual(ended_by(begin + (("eq", 2, 0, 1),), left)[1][2], equal)
            self.assertEqual(ended_by(begin + (("less", 2, 0, 1),), left)[1][2], less)

    def test_registers_are_read_before_one_is_written(self):
        self.assertEqual(ended_by((("add", 0, 0, 0),), 4), ("finished", (8, 0, 0, 0)))
        self.assertEqual(ended_by((("sub", 0, 1, 0),), 4), ("finished", (-4, 0, 0, 0)))
        self.assertEqual(ended_by((("less", 0, 0, 1),), -4), ("finished", (1, 0, 0, 0)))

    def test_jump(self):
        code = (("jump", 2), ("const", 1, 1), ("const", 2, 2))
        self.assertEqual(ended_by(code), ("finished", (0, 0, 2, 0)))

    def test_branch(self):
        code = (("branch", 0, 2), ("const", 1, 1), ("const", 2, 2))
        self.assertEqual(ended_by(code, 0), ("finished", (0, 1, 2, 0)))
        self.assertEqual(ended_by(code, -1), ("finished", (-1, 0, 2, 0)))

    def test_jump_and_branch_behind_the_last_instruction(self):
        self.assertEqual(ended_by((("jump", 2), ("const", 1, 1))), ("finished", (0, 0, 0, 0)))
        self.assertEqual(ended_by((("branch", 0, 2), ("const", 1, 1)), 3), ("finished", (3, 0, 0, 0)))

    def test_jump_back(self):
        code = (("const", 2, 1), ("sub", 0, 0, 2), ("add", 1, 1, 2), ("branch", 0, 1))
        self.assertEqual(ended_by(code, 5), ("finished", (0, 5, 1, 0)))

    def test_stop(self):
        self.assertEqual(ended_by((("stop",), ("const", 1, 1))), ("finished", (0, 0, 0, 0)))

    def test_assert(self):
        code = (("assert", 0), ("const", 1, 1))
        self.assertEqual(ended_by(code, 0), ("assert", (0, 0, 0, 0)))
        self.assertEqual(ended_by(code, -3), ("finished", (-3, 1, 0, 0)))

    def test_range_keeps_what_was_there(self):
        self.assertEqual(ended_by((("const", 1, 1), ("add", 1, 0, 1)), 999), ("range", (999, 1, 0, 0)))
        self.assertEqual(ended_by((("const", 1, 1), ("add", 1, 0, 1)), 998), ("finished", (998, 999, 0, 0)))
        self.assertEqual(ended_by((("const", 1, 1), ("sub", 0, 0, 1)), -999), ("range", (-999, 1, 0, 0)))
        self.assertEqual(ended_by((("mul", 2, 0, 0),), 32), ("range", (32, 0, 0, 0)))
        self.assertEqual(ended_by((("mul", 2, 0, 0),), 31), ("finished", (31, 0, 961, 0)))


class Loops(unittest.TestCase):
    # Behind "const" and n rounds of three instructions, 3 n + 1 local instructions are performed.
    ROUNDS = (("const", 2, 1), ("sub", 0, 0, 2), ("add", 1, 1, 2), ("branch", 0, 1))

    def test_sixty_four_in_a_row(self):
        self.assertEqual(ended_by(self.ROUNDS, 21), ("finished", (0, 21, 1, 0)))

    def test_the_sixty_fifth_whichever_it_is(self):
        for last in (("stop",), ("assert", 0), ("mul", 3, 3, 3), ("jump", 5), ("const", 3, 9)):
            with self.subTest(last):
                self.assertEqual(ended_by(self.ROUNDS + (last,), 21), ("loop", (0, 21, 1, 0)))
                sooner = "assert" if last[0] == "assert" else "finished"
                self.assertEqual(ended_by(self.ROUNDS + (last,), 20)[0], sooner)

    def test_the_sixty_fifth_would_be_out_of_range(self):
        code = (("const", 2, 1), ("const", 3, 999), ("sub", 0, 0, 2), ("branch", 0, 2), ("add", 3, 3, 3))
        self.assertEqual(ended_by(code, 30), ("range", (0, 0, 1, 999)))
        self.assertEqual(ended_by(code, 31), ("loop", (0, 0, 1, 999)))

    def test_a_loop_for_ever(self):
        self.assertEqual(ended_by((("jump", 0),)), ("loop", (0, 0, 0, 0)))
        code = (("const", 1, 1), ("add", 0, 0, 1), ("jump", 1))
        self.assertEqual(ended_by(code), ("loop", (32, 1, 0, 0)))

    def test_a_visible_instruction_begins_a_new_row(self):
        code = self.ROUNDS + (("fence",), ("const", 0, 21), ("jump", 7), ("const", 2, 1),
                              ("sub", 0, 0, 2), ("branch", 0, 8))
        machine = Machine(make_program(code, threads=((0, 21),)), "sequential")
        self.assertEqual(row_of(machine, 0)[0], "waiting")
        machine.step(0)
        self.assertEqual(row_of(machine, 0), ("finished", (0, 21, 1, 0)))

    def test_sixty_five_behind_a_visible_instruction(self):
        for many, how in ((32, "finished"), (33, "loop")):
            code = (("fence",), ("const", 1, 1), ("jump", 3), ("sub", 0, 0, 1), ("branch", 0, 3))
            machine = machine_behind(make_program(code, threads=((0, many - 1),)), "sequential", [0])
            self.assertEqual(row_of(machine, 0)[0], how)

    def test_a_visible_instruction_may_follow_sixty_four(self):
        machine = Machine(make_program(self.ROUNDS + (("fence",),), threads=((0, 21),)), "sequential")
        self.assertEqual(machine.able(), [0])


class VisibleInstructions(unittest.TestCase):
    def alone(self, code, variables=(), locks=0, argument=0, memory="sequential"):
        """The machine behind all steps of the one thread, and its events without agent and number."""
        program = make_program(code, variables=variables, locks=locks, threads=((0, argument),))
        machine = Machine(program, memory)
        told = []
        while machine.able():
            told.append(machine.step(machine.able()[0])[2:])
        return machine, told

    def test_load_and_store(self):
        code = (("load", 1, 1), ("store", 0, 1), ("load", 2, 0))
        machine, told = self.alone(code, shared(3, 8))
        self.assertEqual(row_of(machine, 0), ("finished", (0, 8, 8, 0)))
        self.assertEqual(machine.end()[1], (8, 8))
        self.assertEqual(told, [("load", 1, 8, None), ("store", 0, None, 8), ("load", 0, 8, None)])

    def test_swap(self):
        machine, told = self.alone((("swap", 0, 0, 0),), shared(3), argument=-9)
        self.assertEqual(row_of(machine, 0), ("finished", (3, 0, 0, 0)))
        self.assertEqual(machine.end()[1], (-9,))
        self.assertEqual(told, [("update", 0, 3, -9)])

    def test_fetch(self):
        machine, told = self.alone((("fetch", 0, 0, 0),), shared(3), argument=-9)
        self.assertEqual(row_of(machine, 0), ("finished", (3, 0, 0, 0)))
        self.assertEqual(machine.end()[1], (-6,))
        self.assertEqual(told, [("update", 0, 3, -6)])

    def test_fetch_that_is_no_value(self):
        for first, argument in ((998, 2), (-1, -999)):
            for memory in MEMORIES:
                code = (("fetch", 1, 0, 0), ("const", 2, 1))
                machine, told = self.alone(code, shared(first), argument=argument, memory=memory)
                self.assertEqual(row_of(machine, 0), ("range", (argument, first, 0, 0)))
                self.assertEqual(machine.end()[1], (first,))
                self.assertEqual(told, [("miss", 0, first, None)])

    def test_fetch_to_the_greatest_value(self):
        machine, told = self.alone((("fetch", 1, 0, 0), ("const", 2, 1)), shared(998), argument=1)
        self.assertEqual(row_of(machine, 0), ("finished", (1, 998, 1, 0)))
        self.assertEqual(told, [("update", 0, 998, 999)])

    def test_cas_that_finds_the_variable_equal(self):
        code = (("const", 1, 3), ("const", 2, 4), ("cas", 1, 0, 1, 2))
        machine, told = self.alone(code, shared(3))
        self.assertEqual(row_of(machine, 0), ("finished", (0, 1, 4, 0)))
        self.assertEqual(machine.end()[1], (4,))
        self.assertEqual(told, [("update", 0, 3, 4)])

    def test_cas_that_does_not(self):
        code = (("const", 1, 2), ("const", 2, 4), ("cas", 1, 0, 1, 2))
        machine, told = self.alone(code, shared(3))
        self.assertEqual(row_of(machine, 0), ("finished", (0, 0, 4, 0)))
        self.assertEqual(machine.end()[1], (3,))
        self.assertEqual(told, [("miss", 0, 3, None)])

    def test_cas_that_puts_what_was_there(self):
        machine, told = self.alone((("cas", 1, 0, 0, 0),), shared(0))
        self.assertEqual(told, [("update", 0, 0, 0)])
        self.assertEqual(row_of(machine, 0), ("finished", (0, 1, 0, 0)))

    def test_await(self):
        machine, told = self.alone((("await", 0, 0, 0),), shared(3), argument=3)
        self.assertEqual(row_of(machine, 0), ("finished", (1, 0, 0, 0)))
        self.assertEqual(told, [("await", 0, 3, None)])

    def test_fence_lock_and_unlock(self):
        code = (("lock", 1), ("fence",), ("unlock", 1))
        machine, told = self.alone(code, locks=2)
        self.assertEqual(row_of(machine, 0), ("finished", (0, 0, 0, 0)))
        self.assertEqual(told, [("lock", 1, None, None), ("fence", None, None, None), ("unlock", 1, None, None)])

    def test_spawn_and_join(self):
        program = make_program((("spawn", 1, 1, 0), ("join", 1)), (("add", 1, 0, 0),), threads=((0, 21),))
        machine = Machine(program, "sequential")
        self.assertEqual(machine.step(0), (0, 0, "spawn", 4, None, 21))
        self.assertEqual(row_of(machine, 4), ("finished", (21, 42, 0, 0)))
        self.assertEqual(row_of(machine, 0), ("waiting", (21, 4, 0, 0)))
        self.assertEqual(machine.step(0), (0, 1, "join", 4, None, None))

    def test_spawn_reads_its_argument_first(self):
        program = make_program((("spawn", 0, 1, 0),), (), threads=((0, 21),))
        machine = machine_behind(program, "sequential", [0])
        self.assertEqual(row_of(machine, 4), ("finished", (21, 0, 0, 0)))
        self.assertEqual(row_of(machine, 0), ("finished", (4, 0, 0, 0)))

    def test_a_step_goes_on_to_the_next_visible_instruction(self):
        code = (("const", 1, 1), ("fence",), ("const", 2, 2), ("fence",), ("const", 3, 3))
        machine = Machine(make_program(code), "sequential")
        self.assertEqual(row_of(machine, 0), ("waiting", (0, 1, 0, 0)))
        machine.step(0)
        self.assertEqual(row_of(machine, 0), ("waiting", (0, 1, 2, 0)))
        machine.step(0)
        self.assertEqual(row_of(machine, 0), ("finished", (0, 1, 2, 3)))


class Numbers(unittest.TestCase):
    TWO = (("spawn", 1, 1, 0), ("spawn", 2, 1, 0))

    def test_the_children_of_each_thread_of_the_program(self):
        program = make_program(self.TWO, (), threads=((0, 0),) * 4)
        for thread in range(4):
            events = events_of(program, "sequential", [thread, thread])
            self.assertEqual([event[3] for event in events], [4 + 2 * thread, 5 + 2 * thread])

    def test_the_order_of_spawning_tells_the_number(self):
        program = make_program(self.TWO, self.TWO, threads=((0, 0),))
        events = events_of(program, "sequential", [0, 0, 5, 4, 5])
        self.assertEqual([event[3] for event in events], [4, 5, 14, 12, 15])

    def test_all_numbers_up_to_twenty_seven(self):
        program = make_program(self.TWO, self.TWO, threads=((0, 0),) * 4)
        machine = machine_behind(program, "sequential", [0, 0, 1, 1, 2, 2, 3, 3])
        for child in range(4, 12):
            machine.step(child)
            machine.step(child)
        self.assertEqual([row[0] for row in machine.end()[0]], list(range(28)))

    def test_a_thread_with_a_number_of_twelve_or_more_spawns_nothing(self):
        code = (("spawn", 1, 0, 0),)
        for thread in (0, 3):
            machine = machine_behind(make_program(code, threads=((0, 9),) * 4), "sequential", [thread])
            child = 4 + 2 * thread
            self.assertEqual(row_of(machine, child)[0], "waiting")
            machine.step(child)
            self.assertEqual(row_of(machine, child), ("finished", (9, 4 + 2 * child, 0, 0)))
            self.assertEqual(row_of(machine, 4 + 2 * child), ("spawn", (9, 0, 0, 0)))

    def test_the_second_child_of_eleven_is_the_last_number(self):
        program = make_program(self.TWO, self.TWO, threads=((0, 0),) * 4)
        machine = machine_behind(program, "sequential", [3, 3, 11, 11])
        self.assertEqual(row_of(machine, 27), ("spawn", (0, 0, 0, 0)))

    def test_the_third_spawn_fails(self):
        code = self.TWO + (("spawn", 3, 1, 0),)
        machine = machine_behind(make_program(code, (), threads=((0, 0),)), "sequential", [0, 0])
        self.assertEqual(row_of(machine, 0), ("spawn", (0, 4, 5, 0)))
        self.assertEqual(machine.able(), [])

    def test_a_local_instruction_behind_two_spawns_is_performed(self):
        code = self.TWO + (("const", 3, 7), ("spawn", 3, 1, 0))
        machine = machine_behind(make_program(code, (), threads=((0, 0),)), "sequential", [0, 0])
        self.assertEqual(row_of(machine, 0), ("spawn", (0, 4, 5, 7)))


class Ends(unittest.TestCase):
    def test_the_words_of_failing_when_a_thread_begins(self):
        codes = (
            (("assert", 1),),
            (("const", 1, 999), ("add", 2, 1, 1)),
            (("jump", 0),),
            (("unlock", 0),),
        )
        words = ["assert", "range", "loop", "held"]
        machine = Machine(make_program(*codes, locks=1), "sequential")
        self.assertEqual([row[1] for row in machine.end()[0]], words)
        self.assertEqual(machine.able(), [])
        for code, word in zip(codes, words):
            program = make_program((("spawn", 1, 1, 0),), code, locks=1, threads=((0, 0),))
            self.assertEqual(row_of(machine_behind(program, "sequential", [0]), 4)[0], word)

    def test_the_other_threads_go_on(self):
        program = make_program((("assert", 1),), (("store", 0, 0),), variables=shared(1))
        self.assertEqual(Machine(program, "sequential").able(), [1])

    def test_unlock_of_a_lock_that_another_thread_holds(self):
        program = make_program((("lock", 0), ("unlock", 0)), (("fence",), ("unlock", 0)), locks=1)
        machine = machine_behind(program, "sequential", [0, 1])
        self.assertEqual(row_of(machine, 1)[0], "held")
        self.assertEqual(machine.end()[2], (0,))

    def test_unlock_of_another_lock_and_a_second_unlock(self):
        program = make_program((("lock", 0), ("unlock", 1)), locks=2)
        self.assertEqual(row_of(machine_behind(program, "sequential", [0]), 0)[0], "held")
        program = make_program((("lock", 0), ("unlock", 0), ("unlock", 0)), locks=2)
        self.assertEqual(row_of(machine_behind(program, "sequential", [0, 0]), 0)[0], "held")

    def test_both_locks_are_held_at_once(self):
        code = (("lock", 0), ("lock", 1), ("unlock", 0), ("unlock", 1))
        machine = machine_behind(make_program(code, locks=2), "sequential", [0, 0])
        self.assertEqual(machine.end()[2], (0, 0))
        machine.step(0)
        self.assertEqual(machine.end()[2], (None, 0))
        machine.step(0)
        self.assertEqual(row_of(machine, 0)[0], "finished")
        self.assertEqual(machine.end()[2], (None, None))

    def test_locks_of_threads_that_have_ended_stay_taken(self):
        for last in ((), (("stop",),), (("assert", 1),), (("unlock", 1),)):
            program = make_program((("lock", 0),) + last, (("lock", 0),), locks=2)
            machine = machine_behind(program, "sequential", [0])
            self.assertNotEqual(row_of(machine, 0)[0], "waiting")
            self.assertEqual(machine.end()[2], (0, None))
            self.assertEqual(machine.able(), [])

    def test_a_failing_thread_leaves_its_buffer(self):
        codes = (
            (("store", 0, 0), ("unlock", 0)),
            (("store", 0, 0), ("assert", 1)),
            (("store", 0, 0), ("jump", 1)),
            (("store", 0, 0), ("const", 1, 999), ("mul", 1, 1, 1)),
        )
        for code, word in zip(codes, ("held", "assert", "loop", "range")):
            program = make_program(code, variables=shared(0), locks=1, threads=((0, 5),))
            machine = machine_behind(program, "buffers", [0])
            self.assertEqual(row_of(machine, 0)[0], word)
            self.assertEqual(machine.able(), [-1])
            self.assertEqual(machine.step(-1), (-1, 0, "flush", 0, None, 5))
            self.assertEqual(machine.end()[1], (5,))

    def test_a_third_spawn_fails_whatever_the_buffer_holds(self):
        code = (("spawn", 1, 1, 0), ("spawn", 1, 1, 0), ("store", 0, 0), ("spawn", 1, 1, 0))
        program = make_program(code, (), variables=shared(0), threads=((0, 0),))
        machine = machine_behind(program, "buffers", [0, 0, 0])
        self.assertEqual(row_of(machine, 0)[0], "spawn")
        self.assertEqual(machine.able(), [-1])


class Cuts(unittest.TestCase):
    SEVEN = (("fence",),) * 7

    def behind_eight(self, last, memory="sequential", eighth=("fence",), locks=1):
        code = self.SEVEN + (eighth,) + last
        program = make_program(code, (), variables=shared(0), locks=locks, threads=((0, 0),))
        return machine_behind(program, memory, [0] * 8)

    def test_a_further_visible_instruction(self):
        for memory in MEMORIES:
            for last in (("fence",), ("load", 0, 0), ("store", 0, 0), ("lock", 0)):
                machine = self.behind_eight((last,), memory)
                self.assertEqual(row_of(machine, 0)[0], "cut")
                self.assertEqual(machine.able(), [])
                self.assertIsNone(machine.label(0))

    def test_also_if_it_would_fail_there(self):
        self.assertEqual(row_of(self.behind_eight((("unlock", 0),)), 0)[0], "cut")
        code = (("spawn", 0, 1, 0),) * 2 + (("fence",),) * 6 + (("spawn", 0, 1, 0),)
        machine = machine_behind(make_program(code, (), threads=((0, 0),)), "sequential", [0] * 8)
        self.assertEqual(row_of(machine, 0)[0], "cut")

    def test_also_if_it_would_wait_there(self):
        for last in (("lock", 0), ("await", 0, 0, 1), ("join", 0)):
            machine = self.behind_eight((("const", 1, 1), last), eighth=("lock", 0))
            self.assertEqual(row_of(machine, 0)[0], "cut")

    def test_seven_steps_are_not_enough(self):
        program = make_program(self.SEVEN + (("unlock", 0),), locks=1)
        self.assertEqual(row_of(machine_behind(program, "sequential", [0] * 7), 0)[0], "held")
        program = make_program(self.SEVEN + (("lock", 0),), locks=1)
        self.assertEqual(row_of(machine_behind(program, "sequential", [0] * 7), 0)[0], "waiting")

    def test_local_instructions_behind_the_eighth_step(self):
        self.assertEqual(row_of(self.behind_eight(()), 0), ("finished", (0, 0, 0, 0)))
        self.assertEqual(row_of(self.behind_eight((("const", 1, 4), ("stop",))), 0), ("finished", (0, 4, 0, 0)))
        self.assertEqual(row_of(self.behind_eight((("assert", 0),)), 0)[0], "assert")
        self.assertEqual(row_of(self.behind_eight((("jump", 8),)), 0)[0], "loop")
        ending = (("const", 1, 999), ("add", 1, 1, 1))
        self.assertEqual(row_of(self.behind_eight(ending), 0), ("range", (0, 999, 0, 0)))
        self.assertEqual(row_of(self.behind_eight((("const", 1, 4), ("fence",))), 0), ("cut", (0, 4, 0, 0)))

    def test_a_fetch_that_fails_as_the_eighth_step(self):
        code = (("const", 1, 999),) + self.SEVEN + (("fetch", 2, 0, 1), ("fence",))
        program = make_program(code, variables=shared(1))
        machine = machine_behind(program, "sequential", [0] * 8)
        self.assertEqual(row_of(machine, 0), ("range", (0, 999, 1, 0)))

    def test_steps_of_buffers_do_not_count(self):
        code = (("store", 0, 0), ("fence",)) * 4
        program = make_program(code, variables=shared(0))
        machine = machine_behind(program, "buffers", [0, -1, 0] * 4)
        self.assertEqual(row_of(machine, 0)[0], "finished")

    def test_a_cut_thread_has_not_ended(self):
        code = (("fence",), ("jump", 0))
        program = make_program(code, (("join", 1),), threads=((0, 0), (1, 0)))
        machine = machine_behind(program, "sequential", [0] * 8)
        self.assertEqual(machine.able(), [])
        self.assertEqual([row[1] for row in machine.end()[0]], ["cut", "waiting"])

    def test_a_child_has_eight_steps_of_its_own(self):
        program = make_program((("fence",),) * 7 + (("spawn", 1, 1, 0),), (("fence",),) * 9, threads=((0, 0),))
        machine = machine_behind(program, "sequential", [0] * 8 + [4] * 8)
        self.assertEqual([row[1] for row in machine.end()[0]], ["finished", "cut"])


if __name__ == "__main__":
    unittest.main()
