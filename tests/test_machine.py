"""Events, schedules, equal states, twins and the end, as a machine answers for them (points 1, 8, 9 and 10)."""

import unittest

from everyweave.errors import BadSchedule
from everyweave.machine import Machine
from tests.helpers import MEMORIES, all_states, events_of, machine_behind, make_program, shared

# A program in which every kind of event occurs in some run.
EVERYTHING = make_program(
    (("store", 0, 0), ("load", 1, 0), ("await", 2, 0, 0), ("lock", 0), ("spawn", 3, 2, 0), ("unlock", 0), ("join", 3)),
    (("lock", 0), ("cas", 1, 0, 2, 0), ("fetch", 1, 0, 0), ("unlock", 0)),
    (("swap", 1, 0, 0), ("fence",)),
    variables=shared(0),
    locks=1,
    threads=((0, 3), (1, 2)),
)

# No thread of it can go on for ever, so that what is read off its states is small.
PROGRAMS = (
    EVERYTHING,
    make_program((("store", 0, 0), ("load", 1, 1)), (("store", 1, 0), ("load", 1, 0)), variables=shared(0, 0),
                 threads=((0, 1), (1, 2))),
    make_program((("lock", 0), ("lock", 1), ("unlock", 1)), (("lock", 1), ("lock", 0), ("assert", 1)), locks=2),
    make_program((("spawn", 1, 1, 0), ("spawn", 2, 1, 1), ("join", 1)), (("fetch", 1, 0, 0), ("store", 0, 1)),
                 variables=shared(1), threads=((0, 2),)),
    make_program((("await", 1, 0, 0), ("unlock", 0)), (("store", 0, 0), ("store", 0, 1)), variables=shared(0), locks=1,
                 threads=((0, 4), (1, 4))),
    make_program((("fetch", 1, 0, 0), ("jump", 0)), variables=shared(990), threads=((0, 1), (0, 2))),
)


def every_machine():
    for program in PROGRAMS:
        for memory in MEMORIES:
            for machine in all_states(program, memory).values():
                yield machine


class Events(unittest.TestCase):
    def test_every_kind_in_the_sequential_memory(self):
        self.assertEqual(events_of(EVERYTHING, "sequential", [0, 0, 0, 0, 0, 0, 4, 4, 0, 1, 1, 1, 1]), [
            (0, 0, "store", 0, None, 3),
            (0, 1, "load", 0, 3, None),
            (0, 2, "await", 0, 3, None),
            (0, 3, "lock", 0, None, None),
            (0, 4, "spawn", 4, None, 3),
            (0, 5, "unlock", 0, None, None),
            (4, 0, "update", 0, 3, 3),
            (4, 1, "fence", None, None, None),
            (0, 6, "join", 4, None, None),
            (1, 0, "lock", 0, None, None),
            (1, 1, "miss", 0, 3, None),
            (1, 2, "update", 0, 3, 5),
            (1, 3, "unlock", 0, None, None),
        ])

    def test_every_kind_with_store_buffers(self):
        self.assertEqual(events_of(EVERYTHING, "buffers", [1, 1, 0, 0, 0, 1, -1, 1, 0, 0, 4, 0, 4, 0]), [
            (1, 0, "lock", 0, None, None),
            (1, 1, "update", 0, 0, 2),
            (0, 0, "buffer", 0, None, 3),
            (0, 1, "own", 0, 3, None),
            (0, 2, "ownawait", 0, 3, None),
            (1, 2, "update", 0, 2, 4),
            (-1, 0, "flush", 0, None, 3),
            (1, 3, "unlock", 0, None, None),
            (0, 3, "lock", 0, None, None),
            (0, 4, "spawn", 4, None, 3),
            (4, 0, "update", 0, 3, 3),
            (0, 5, "unlock", 0, None, None),
            (4, 1, "fence", None, None, None),
            (0, 6, "join", 4, None, None),
        ])

    def test_kinds_with_store_buffers_when_the_buffer_is_empty(self):
        events = events_of(EVERYTHING, "buffers", [0, -1, 0, 0, 1, 1])
        self.assertEqual([event[2] for event in events], ["buffer", "flush", "load", "await", "lock", "miss"])

    def test_each_agent_counts_its_own_steps(self):
        program = make_program((("store", 0, 0),) * 3, variables=shared(0), threads=((0, 0), (0, 0)))
        events = events_of(program, "buffers", [0, 1, 0, -1, -2, 1, -1, 0, -1])
        self.assertEqual([event[:2] for event in events],
                         [(0, 0), (1, 0), (0, 1), (-1, 0), (-2, 0), (1, 1), (-1, 1), (0, 2), (-1, 2)])

    def test_a_label_is_the_event_of_the_step(self):
        for machine in every_machine():
            for agent in machine.able():
                self.assertEqual(machine.label(agent), machine.twin().step(agent))

    def test_a_label_changes_nothing(self):
        for machine in every_machine():
            before = (machine.state(), machine.end(), machine.able())
            for agent in range(-30, 30):
                self.assertEqual(machine.label(agent) is not None, agent in before[2])
            self.assertEqual((machine.state(), machine.end(), machine.able()), before)


class Schedules(unittest.TestCase):
    def refuse(self, machine, agent):
        before = (machine.state(), machine.end(), machine.able())
        with self.subTest(agent):
            with self.assertRaises(BadSchedule):
                machine.step(agent)
            self.assertIsNone(machine.label(agent))
            self.assertEqual((machine.state(), machine.end(), machine.able()), before)

    def test_an_agent_that_waits(self):
        codes = ((("lock", 0),), (("await", 1, 0, 0),), (("join", 0),))
        program = make_program(*codes, variables=shared(0), locks=1, threads=((0, 0), (0, 0), (1, 1), (2, 0)))
        for memory in MEMORIES:
            machine = machine_behind(program, memory, [1])
            self.assertEqual(machine.able(), [])
            for agent in (0, 2, 3):
                self.refuse(machine, agent)

    def test_an_agent_that_has_ended_or_is_cut(self):
        for memory in MEMORIES:
            machine = Machine(make_program((), (("assert", 0),), (("fence",), ("jump", 0))), memory)
            for _ in range(8):
                machine.step(2)
            for agent in (0, 1, 2):
                self.refuse(machine, agent)

    def test_an_empty_buffer(self):
        program = make_program((("store", 0, 0), ("fence",)), variables=shared(0))
        self.refuse(Machine(program, "buffers"), -1)
        self.refuse(machine_behind(program, "buffers", [0, -1]), -1)
        self.refuse(machine_behind(program, "sequential", [0]), -1)

    def test_an_instruction_that_needs_an_empty_buffer(self):
        program = make_program((("store", 0, 0), ("fence",)), variables=shared(0))
        self.refuse(machine_behind(program, "buffers", [0]), 0)

    def test_an_integer_that_is_no_agent(self):
        program = make_program((("fence",),))
        for memory in MEMORIES:
            machine = Machine(program, memory)
            for agent in (1, 4, 27, 28, 10 ** 20, -1, -2, -28, -29, -10 ** 20):
                self.refuse(machine, agent)
            self.assertEqual(machine.step(0), (0, 0, "fence", None, None, None))

    def test_every_agent_that_is_not_able_is_refused(self):
        for machine in every_machine():
            able = machine.able()
            self.assertEqual(able, sorted(able))
            for agent in range(-29, 30):
                if agent not in able:
                    self.refuse(machine, agent)


class States(unittest.TestCase):
    def assert_apart(self, first, second):
        self.assertNotEqual(first.state(), second.state())

    def test_the_same_state_by_different_schedules(self):
        program = make_program((("store", 0, 0),), (("store", 1, 0),), variables=shared(0, 0))
        first = machine_behind(program, "sequential", [0, 1])
        second = machine_behind(program, "sequential", [1, 0])
        self.assertEqual(first.state(), second.state())
        self.assertEqual(first.end(), second.end())

    def test_the_same_values_by_different_events(self):
        program = make_program((("swap", 1, 0, 0),), (("store", 0, 0),), variables=shared(5), threads=((0, 5), (1, 5)))
        states = [machine_behind(program, "sequential", schedule).state() for schedule in ([0, 1], [1, 0])]
        self.assertEqual(states[0], states[1])

    def test_a_state_is_a_tuple_that_can_be_a_key(self):
        for machine in every_machine():
            self.assertIsInstance(machine.state(), tuple)
            hash(machine.state())

    def test_a_different_place(self):
        # The register that leads to the two places is made equal behind the branch.
        code = (("load", 1, 0), ("branch", 1, 4), ("const", 1, 0), ("fence",), ("const", 1, 0), ("fence",))
        storing = (("store", 0, 0), ("store", 0, 1))
        program = make_program(code, storing, variables=shared(0), threads=((0, 0), (1, 1)))
        first = machine_behind(program, "sequential", [0, 1, 1])
        second = machine_behind(program, "sequential", [1, 0, 1])
        self.assertEqual(first.end(), second.end())
        self.assert_apart(first, second)

    def test_different_registers(self):
        program = make_program((("load", 1, 0), ("fence",)), (("store", 0, 0),), variables=shared(0),
                               threads=((0, 0), (1, 1)))
        self.assert_apart(machine_behind(program, "sequential", [0, 1]),
                          machine_behind(program, "sequential", [1, 0]))

    def test_different_registers_of_a_thread_that_has_ended(self):
        program = make_program((("load", 1, 0),), (("store", 0, 0),), variables=shared(0), threads=((0, 0), (1, 1)))
        self.assert_apart(machine_behind(program, "sequential", [0, 1]),
                          machine_behind(program, "sequential", [1, 0]))

    def test_a_different_number_of_steps(self):
        program = make_program((("fence",), ("jump", 0)))
        machines = [machine_behind(program, "sequential", [0] * many) for many in range(9)]
        self.assertEqual(len({machine.state() for machine in machines}), 9)

    def test_a_different_number_of_spawns(self):
        # One way through the code spawns a thread, and the other one only makes it look so.
        code = (("load", 1, 0), ("branch", 1, 5), ("spawn", 1, 2, 2), ("fence",), ("jump", 7),
                ("fence",), ("fence",), ("const", 1, 0), ("load", 2, 1))
        storing = (("store", 0, 0), ("store", 0, 1))
        program = make_program(code, storing, (), variables=shared(0, 0), threads=((0, 0), (1, 1)))
        first = machine_behind(program, "sequential", [0, 0, 0, 1, 1])
        second = machine_behind(program, "sequential", [1, 0, 0, 0, 1])
        rows = [machine.state()[3][0] for machine in (first, second)]
        self.assertEqual(rows[0][:-1], rows[1][:-1])
        self.assertNotEqual(rows[0], rows[1])
        self.assert_apart(first, second)

    def test_different_values(self):
        program = make_program((("store", 0, 0),), (("store", 0, 0),), variables=shared(0), threads=((0, 1), (1, 2)))
        self.assert_apart(machine_behind(program, "sequential", [0, 1]),
                          machine_behind(program, "sequential", [1, 0]))

    def test_different_holders(self):
        code = (("load", 1, 0), ("branch", 1, 4), ("lock", 0), ("stop",), ("lock", 1), ("const", 1, 0))
        program = make_program(code, (("store", 0, 0), ("store", 0, 1)), variables=shared(0), locks=2,
                               threads=((0, 0), (1, 1)))
        first = machine_behind(program, "sequential", [0, 0, 1, 1])
        second = machine_behind(program, "sequential", [1, 0, 0, 1])
        self.assertEqual(first.end()[:2], second.end()[:2])
        self.assertEqual((first.end()[2], second.end()[2]), ((0, None), (None, 0)))
        self.assert_apart(first, second)

    def test_different_buffers(self):
        code = (("store", 0, 0), ("store", 0, 1), ("fence",))
        program = make_program(code, variables=shared(0))
        self.assert_apart(machine_behind(program, "buffers", [0, 0]),
                          machine_behind(program, "buffers", [0, 0, -1]))
        program = make_program((("load", 1, 1), ("store", 0, 1), ("const", 1, 0), ("fence",)),
                               (("swap", 1, 1, 0), ("swap", 1, 1, 2), ("const", 1, 0), ("fence",)),
                               variables=shared(0, 0), threads=((0, 0), (1, 7)))
        first = machine_behind(program, "buffers", [0, 0, 1, 1])
        second = machine_behind(program, "buffers", [1, 0, 0, 1])
        self.assertEqual(first.end(), second.end())
        self.assert_apart(first, second)

    def test_how_a_thread_ended(self):
        code = (("load", 1, 0), ("branch", 1, 4), ("assert", 1), ("stop",), ("const", 1, 0))
        program = make_program(code, (("store", 0, 0), ("store", 0, 1)), variables=shared(0), threads=((0, 0), (1, 1)))
        first = machine_behind(program, "sequential", [0, 1, 1])
        second = machine_behind(program, "sequential", [1, 0, 1])
        self.assertEqual([row[1] for row in first.end()[0]], ["assert", "finished"])
        self.assertEqual([row[1] for row in second.end()[0]], ["finished", "finished"])
        self.assertEqual(first.end()[0][0][2], second.end()[0][0][2])
        self.assert_apart(first, second)

    def test_how_a_thread_came_to_its_end_does_not_count(self):
        # The two ways through the code differ in steps, spawns and place, but not in how they end.
        code = (("load", 1, 0), ("branch", 1, 4), ("const", 1, 0), ("stop",), ("fence",), ("const", 1, 0), ("stop",))
        program = make_program(code, (("store", 0, 0), ("store", 0, 1)), variables=shared(0), threads=((0, 0), (1, 1)))
        first = machine_behind(program, "sequential", [0, 1, 1])
        second = machine_behind(program, "sequential", [1, 0, 0, 1])
        self.assertEqual(first.state(), second.state())

    def test_a_thread_at_the_same_place_of_another_code(self):
        code = (("fence",),)
        spawning = (("load", 1, 0), ("branch", 1, 4), ("spawn", 1, 2, 2), ("jump", 5), ("spawn", 1, 3, 2),
                    ("const", 1, 0), ("stop",))
        program = make_program(spawning, (("store", 0, 0), ("store", 0, 1)), code, code, variables=shared(0),
                               threads=((0, 0), (1, 1)))
        first = machine_behind(program, "sequential", [0, 0, 1, 1])
        second = machine_behind(program, "sequential", [1, 0, 0, 1])
        self.assertEqual(first.end(), second.end())
        self.assert_apart(first, second)

    def test_the_steps_of_a_buffer_do_not_count(self):
        code = (("load", 1, 0), ("branch", 1, 4), ("store", 1, 2), ("stop",), ("const", 1, 0), ("stop",))
        program = make_program(code, (("swap", 1, 0, 0), ("swap", 1, 0, 2), ("const", 1, 0)), variables=shared(0, 0),
                               threads=((0, 0), (1, 1)))
        first = machine_behind(program, "buffers", [0, 0, -1, 1, 1])
        second = machine_behind(program, "buffers", [1, 0, 1])
        self.assertEqual(first.state(), second.state())

    def test_flush_events_of_equal_states_may_have_different_numbers(self):
        code = (("load", 1, 0), ("branch", 1, 5), ("store", 1, 2), ("fence",), ("jump", 8),
                ("fence",), ("fence",), ("const", 1, 0), ("store", 1, 3))
        program = make_program(code, (("swap", 1, 0, 0), ("swap", 1, 0, 2), ("const", 1, 0)), variables=shared(0, 0),
                               threads=((0, 0), (1, 1)))
        first = machine_behind(program, "buffers", [0, 0, -1, 0, 0, 1, 1])
        second = machine_behind(program, "buffers", [1, 0, 0, 0, 0, 1])
        self.assertEqual(first.state(), second.state())
        self.assertEqual(first.label(-1)[:2], (-1, 1))
        self.assertEqual(second.label(-1)[:2], (-1, 0))

    def test_machines_in_the_same_state_go_on_alike(self):
        for program in PROGRAMS:
            for memory in MEMORIES:
                states = all_states(program, memory)
                for machine in states.values():
                    for agent in machine.able():
                        twin = machine.twin()
                        twin.step(agent)
                        known = states[twin.state()]
                        self.assertEqual((twin.able(), twin.end()), (known.able(), known.end()))


class Twins(unittest.TestCase):
    def test_a_twin_is_a_machine_in_the_same_state(self):
        for machine in every_machine():
            twin = machine.twin()
            self.assertIsInstance(twin, Machine)
            self.assertEqual((twin.state(), twin.end(), twin.able()), (machine.state(), machine.end(), machine.able()))
            for agent in machine.able():
                self.assertEqual(twin.label(agent), machine.label(agent))

    def test_each_goes_on_apart_from_the_other(self):
        for machine in every_machine():
            for agent in machine.able():
                before = (machine.state(), machine.end(), [machine.label(able) for able in machine.able()])
                twin = machine.twin()
                twin.step(agent)
                self.assertEqual(
                    (machine.state(), machine.end(), [machine.label(able) for able in machine.able()]), before)
                first = machine.twin()
                second = first.twin()
                first.step(agent)
                self.assertEqual((second.state(), second.end()), before[:2])
                second.step(agent)
                self.assertEqual((first.state(), first.end()), (second.state(), second.end()))

    def test_a_twin_of_a_twin_plays_to_the_end(self):
        machine = Machine(EVERYTHING, "buffers")
        told = []
        while machine.able():
            machine = machine.twin()
            told.append(machine.step(machine.able()[0]))
        self.assertEqual(told, events_of(EVERYTHING, "buffers", [event[0] for event in told]))


class TheEnd(unittest.TestCase):
    def test_each_way_to_stand(self):
        program = make_program(
            (("spawn", 1, 2, 0), ("spawn", 1, 3, 0), ("join", 1)),
            (("spawn", 1, 4, 0), ("fence",), ("jump", 1)),
            (),
            (("unlock", 0),),
            (("assert", 1),),
            variables=shared(3, -3), locks=1, threads=((0, 0), (1, 0)),
        )
        machine = machine_behind(program, "sequential", [0, 0] + [1] * 8)
        self.assertEqual(machine.end(), (
            (
                (0, "waiting", (0, 5, 0, 0)),
                (1, "cut", (0, 6, 0, 0)),
                (4, "finished", (0, 0, 0, 0)),
                (5, "held", (0, 0, 0, 0)),
                (6, "assert", (0, 0, 0, 0)),
            ),
            (3, -3),
            (None,),
        ))

    def test_waiting_also_for_a_thread_that_could_make_a_step(self):
        machine = Machine(make_program((("lock", 0),), (("lock", 0),), (("fence",),), locks=1), "buffers")
        machine.step(0)
        self.assertEqual([row[1] for row in machine.end()[0]], ["finished", "waiting", "waiting"])

    def test_range_loop_and_spawn(self):
        program = make_program(
            (("fetch", 1, 0, 0),),
            (("jump", 0),),
            (("spawn", 1, 1, 1), ("spawn", 1, 1, 1), ("spawn", 1, 1, 1)),
            variables=shared(999), threads=((0, 1), (1, 2), (2, 3)),
        )
        machine = machine_behind(program, "sequential", [0, 2, 2])
        self.assertEqual([row[:2] for row in machine.end()[0]],
                         [(0, "range"), (1, "loop"), (2, "spawn"), (8, "loop"), (9, "loop")])

    def test_values_are_those_of_the_memory(self):
        program = make_program((("store", 0, 0), ("load", 1, 0)), variables=shared(2), threads=((0, 7),))
        machine = machine_behind(program, "buffers", [0, 0])
        self.assertEqual(machine.end(), (((0, "finished", (7, 7, 0, 0)),), (2,), ()))
        machine.step(-1)
        self.assertEqual(machine.end()[1], (7,))

    def test_of_the_first_state(self):
        machine = Machine(make_program(()), "sequential")
        self.assertEqual(machine.end(), (((0, "finished", (0, 0, 0, 0)),), (), ()))

    def test_what_was_returned_stays_as_it_is(self):
        machine = Machine(EVERYTHING, "buffers")
        state, end, able = machine.state(), machine.end(), machine.able()
        copies = (state, end, list(able))
        machine.step(0)
        machine.step(-1)
        self.assertEqual((state, end, able), copies)
        self.assertNotEqual(machine.state(), state)


if __name__ == "__main__":
    unittest.main()
