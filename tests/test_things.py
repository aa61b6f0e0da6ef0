"""Told things, ends and shortest schedules (points 18 and 27)."""

import unittest

from everyweave.errors import BadArgument, BadProgram, TooLarge
from everyweave.explorer import explore
from everyweave.runs import Run
from everyweave.things import ends, shortest, things
from tests.helpers import (MEMORIES, WORDS, all_states, machine_behind, make_program, played_machines, shared,
                           told_in)
from tests.samples import FENCE, SMALL, STATES_3000, STATES_3001, fences

def least_schedules(program, memory):
    """A dict from every told thing that holds somewhere to its shortest and least schedule."""
    machines = played_machines(program, memory)
    found = {}
    for schedule in sorted(machines, key=lambda row: (len(row), row)):
        for thing in told_in(program, machines[schedule]):
            found.setdefault(thing, list(schedule))
    return found


def end_of(program, memory, schedule):
    return machine_behind(program, memory, schedule).end()


class Things(unittest.TestCase):
    def test_all_that_hold_in_some_state_and_no_others(self):
        for name, program in SMALL.items():
            for memory in MEMORIES:
                found = {thing for machine in all_states(program, memory).values()
                         for thing in told_in(program, machine) if thing[0] != "end"}
                self.assertEqual(things(program, memory), sorted(found), name)

    def test_examples(self):
        self.assertEqual(things(SMALL["nothing to do"], "sequential"), [])
        self.assertEqual(things(SMALL["two fences"], "buffers"), [])
        self.assertEqual(things(SMALL["deadlock"], "sequential"), [("standstill",)])
        self.assertEqual(things(SMALL["taken for ever"], "buffers"), [("failed", 0, "assert"), ("standstill",)])
        self.assertEqual(things(SMALL["cut"], "sequential"), [("cut", 0)])
        self.assertEqual(things(SMALL["cas"], "sequential"), [("failed", 0, "assert"), ("failed", 1, "assert")])
        self.assertEqual(things(SMALL["too many children"], "sequential"), [("failed", 0, "spawn")])
        self.assertEqual(things(SMALL["loop"], "buffers"), [("failed", 2, "loop")])
        self.assertEqual(things(SMALL["missed value"], "sequential"), [("standstill",)])
        self.assertEqual(things(SMALL["message"], "sequential"), [])
        self.assertEqual(things(SMALL["mutex"], "buffers"), [])
        self.assertEqual(things(SMALL["plain race"], "sequential"), [("race", 0, 0, 1)])

    def test_each_word(self):
        program = make_program((("assert", 1),), (("const", 1, 999), ("mul", 1, 1, 1)), (("jump", 0),),
                               (("unlock", 0),), locks=1)
        self.assertEqual(things(program, "buffers"), [
            ("failed", 0, "assert"), ("failed", 1, "range"), ("failed", 2, "loop"), ("failed", 3, "held"),
        ])

    def test_a_thread_that_was_spawned(self):
        program = make_program((("spawn", 1, 1, 0), ("spawn", 1, 2, 0)), (("assert", 1),), (("fence",), ("jump", 0)),
                               threads=((0, 0),))
        self.assertEqual(things(program, "sequential"), [("cut", 5), ("failed", 4, "assert")])

    def test_a_standstill_needs_a_thread_that_waits(self):
        self.assertEqual(things(make_program((("assert", 1),), ()), "sequential"), [("failed", 0, "assert")])
        self.assertEqual(things(make_program((("join", 0),)), "sequential"), [("standstill",)])
        # The thread could go on for ever if it were not cut, and nobody else waits.
        self.assertEqual(things(make_program((("fence",), ("jump", 0))), "buffers"), [("cut", 0)])
        # Another thread waits for the one that is cut.
        program = make_program((("fence",), ("jump", 0)), (("join", 0),), threads=((0, 0), (1, 0)))
        self.assertEqual(things(program, "sequential"), [("cut", 0), ("standstill",)])

    def test_no_standstill_while_a_buffer_can_make_a_step(self):
        program = make_program((("store", 0, 0), ("fence",)), (("await", 1, 0, 0),), variables=shared(0),
                               threads=((0, 1), (1, 1)))
        for memory in MEMORIES:
            self.assertEqual(things(program, memory), [])

    def test_ascending(self):
        program = make_program((("assert", 1),), (("jump", 0),), (("load", 1, 0),), (("store", 0, 0),),
                               variables=((0, True),), threads=((1, 0), (0, 0), (3, 0), (2, 0)))
        self.assertEqual(things(program, "sequential"),
                         [("failed", 0, "loop"), ("failed", 1, "assert"), ("race", 0, 2, 3)])


class Races(unittest.TestCase):
    def races(self, memory, *codes, variables=((0, True), (0, True)), locks=1):
        program = make_program(*codes, variables=variables, locks=locks)
        return [thing[1:] for thing in things(program, memory) if thing[0] == "race"]

    def test_loads_and_stores(self):
        load, store = (("load", 1, 0),), (("store", 0, 0),)
        for memory in MEMORIES:
            self.assertEqual(self.races(memory, load, load), [])
            self.assertEqual(self.races(memory, load, store), [(0, 0, 1)])
            self.assertEqual(self.races(memory, store, load), [(0, 0, 1)])
            self.assertEqual(self.races(memory, store, store), [(0, 0, 1)])
            self.assertEqual(self.races(memory, load, load, store), [(0, 0, 2), (0, 1, 2)])
            self.assertEqual(self.races(memory, store, FENCE, store), [(0, 0, 2)])

    def test_different_variables(self):
        for memory in MEMORIES:
            self.assertEqual(self.races(memory, (("store", 0, 0),), (("store", 1, 0),)), [])
            self.assertEqual(self.races(memory, (("store", 1, 0),), (("load", 1, 1),)), [(1, 0, 1)])

    def test_variables_that_are_not_plain(self):
        for memory in MEMORIES:
            self.assertEqual(self.races(memory, (("store", 0, 0),), (("store", 0, 0),), variables=shared(0)), [])

    def test_only_steps_that_can_be_made_together(self):
        guarded = (("lock", 0), ("store", 0, 0), ("unlock", 0))
        for memory in MEMORIES:
            self.assertEqual(self.races(memory, guarded, guarded), [])
            self.assertEqual(self.races(memory, guarded, (("store", 0, 0),)), [(0, 0, 1)])

    def test_what_comes_from_the_own_buffer(self):
        # The load takes its value from the buffer, but the other thread stores all the same.
        own = (("store", 0, 0), ("load", 1, 0))
        behind = (("await", 1, 1, 2), ("store", 0, 0))
        program = make_program((("const", 3, 1), ("swap", 2, 1, 3), *own), (("const", 2, 1), *behind),
                               variables=((0, True), (0, False)))
        self.assertEqual(things(program, "buffers"), [("race", 0, 0, 1)])
        self.assertEqual(shortest(program, "buffers", ("race", 0, 0, 1)), [0, 1])

    def test_own_load_against_a_store_alone(self):
        # The thread 1 begins only when the store of the thread 0 is in its buffer.
        program = make_program((("spawn", 1, 1, 0), ("load", 1, 0)), (("store", 0, 0),), variables=((0, True),),
                               threads=((0, 0),))
        self.assertEqual(things(program, "buffers"), [("race", 0, 0, 4)])

    def test_a_flush_is_no_part_of_a_race(self):
        # When the thread 1 comes to its load, only the buffer of the thread 0 has still to make its step.
        program = make_program((("store", 0, 0),), (("join", 0), ("load", 1, 0)), variables=((0, True),))
        for memory in MEMORIES:
            self.assertEqual(things(program, memory), [])
        program = make_program((("store", 0, 0), ("store", 1, 0)), (("await", 1, 1, 0), ("load", 1, 0)),
                               variables=((0, True), (0, False)), threads=((0, 1), (1, 1)))
        self.assertEqual(things(program, "buffers"), [])

    def test_of_threads_with_any_numbers(self):
        program = make_program((("spawn", 1, 1, 0), ("spawn", 1, 1, 0)), (("store", 0, 0),), variables=((0, True),),
                               threads=((0, 0), (1, 0)))
        self.assertEqual(things(program, "sequential"), [("race", 0, 1, 4), ("race", 0, 1, 5), ("race", 0, 4, 5)])


class Ends(unittest.TestCase):
    def test_of_all_whole_runs(self):
        for name, program in SMALL.items():
            for memory in MEMORIES:
                machines = played_machines(program, memory).values()
                found = {machine.end() for machine in machines if not machine.able()}
                told = ends(program, memory)
                self.assertEqual(len(told), len(found), name)
                self.assertEqual(set(told), found, name)

    def test_those_of_the_runs_of_the_explorer(self):
        for name, program in SMALL.items():
            for memory in MEMORIES:
                found = {Run(program, memory, schedule).end() for schedule in explore(program, memory)[0]}
                self.assertEqual(set(ends(program, memory)), found, name)

    def test_those_of_the_sequential_memory_are_there_with_store_buffers_too(self):
        for name, program in SMALL.items():
            self.assertLessEqual(set(ends(program, "sequential")), set(ends(program, "buffers")), name)
        program = SMALL["store buffering"]
        self.assertLess(set(ends(program, "sequential")), set(ends(program, "buffers")))

    def test_ascending(self):
        for name, program in SMALL.items():
            for memory in MEMORIES:
                told = ends(program, memory)
                keys = [(rows, values, [-1 if holder is None else holder for holder in holders])
                        for rows, values, holders in told]
                self.assertEqual(keys, sorted(keys), name)

    def test_none_is_less_than_every_integer(self):
        # The thread 0 takes the lock or leaves it; threads and values are the same in both ends.
        # It leaves it on the longer way, so that this end is found behind the other one.
        code = (("load", 1, 0), ("branch", 1, 4), ("lock", 0), ("stop",), ("const", 1, 0), *fences(4), ("stop",))
        setting = (("swap", 1, 0, 0), ("swap", 1, 0, 2), ("const", 1, 0))
        program = make_program(code, setting, variables=shared(0), locks=1, threads=((0, 0), (1, 1)))
        for memory in MEMORIES:
            told = ends(program, memory)
            self.assertEqual([holders for _, _, holders in told], [(None,), (0,)])
            self.assertEqual(len({end[:2] for end in told}), 1)

    def test_examples(self):
        self.assertEqual(ends(SMALL["nothing to do"], "buffers"), [(((0, "finished", (0, 0, 0, 0)),), (), ())])
        self.assertEqual(ends(SMALL["plain race"], "sequential"), [
            (((0, "finished", (1, 0, 0, 0)), (1, "finished", (0, 0, 0, 0))), (1,), ()),
            (((0, "finished", (1, 0, 0, 0)), (1, "finished", (0, 1, 0, 0))), (1,), ()),
        ])
        self.assertEqual(ends(SMALL["taken for ever"], "sequential"), [
            (((0, "assert", (0, 0, 0, 0)), (1, "waiting", (0, 0, 0, 0))), (), (0,)),
            (((0, "waiting", (0, 0, 0, 0)), (1, "finished", (0, 0, 0, 0))), (), (1,)),
        ])

    def test_new_lists_each_time(self):
        for told in (ends, things):
            told(SMALL["deadlock"], "sequential").append(None)
            self.assertNotIn(None, told(SMALL["deadlock"], "sequential"))


class Shortest(unittest.TestCase):
    def test_of_everything_that_holds_somewhere(self):
        for name, program in SMALL.items():
            for memory in MEMORIES:
                for thing, schedule in least_schedules(program, memory).items():
                    self.assertEqual(shortest(program, memory, thing), schedule, (name, memory, thing))

    def test_it_plays_and_leads_there(self):
        for name, program in SMALL.items():
            for memory in MEMORIES:
                told = [("end", end) for end in ends(program, memory)] + things(program, memory)
                for thing in told:
                    machine = machine_behind(program, memory, shortest(program, memory, thing))
                    self.assertIn(thing, told_in(program, machine), name)

    def test_what_holds_in_no_state(self):
        for name, program in SMALL.items():
            for memory in MEMORIES:
                known = things(program, memory)
                asked = [("standstill",)] + [("cut", t) for t in (0, 1, 2, 4, 27)]
                asked += [("failed", t, word) for t in (0, 1, 5, 27) for word in WORDS]
                for thing in asked:
                    if thing not in known:
                        self.assertIsNone(shortest(program, memory, thing), (name, thing))

    def test_ends_that_hold_in_no_state(self):
        program = SMALL["deadlock"]
        for memory in MEMORIES:
            rows, values, _ = end_of(program, memory, [])
            for end in ((rows, values, (None, None)), (rows, values, (1, 0)), ((), values, (0, 1)),
                        (rows[:1], values, (0, 1)), ((*rows, (27, "spawn", (9, -9, 999, -999))), values, (27, None))):
                self.assertIsNone(shortest(program, memory, ("end", end)))
            self.assertEqual(shortest(program, memory, ("end", (rows, values, (0, 1)))), [0, 1])

    def test_an_end_holds_only_where_no_agent_can_make_a_step(self):
        program = make_program((("store", 0, 0), ("load", 1, 0), ("const", 1, 0), ("fence",)), variables=shared(0))
        for memory in MEMORIES:
            self.assertIsNone(shortest(program, memory, ("end", end_of(program, memory, []))))
        # Behind the store the end would look the same, but the buffer still holds the pair.
        program = make_program((("store", 0, 0),), variables=shared(0))
        thing = ("end", end_of(program, "buffers", [0]))
        self.assertEqual(end_of(program, "buffers", [0]), end_of(program, "buffers", [0, -1]))
        self.assertEqual(shortest(program, "buffers", thing), [0, -1])

    def test_the_shortest_and_the_least_of_these(self):
        program = make_program((("store", 0, 0), ("store", 0, 0)), (("load", 1, 0),), variables=((0, True),),
                               threads=((0, 0), (1, 0)))
        self.assertEqual(shortest(program, "sequential", ("race", 0, 0, 1)), [])
        self.assertEqual(shortest(SMALL["cas"], "sequential", ("failed", 1, "assert")), [0, 1])
        self.assertEqual(shortest(SMALL["cas"], "sequential", ("failed", 0, "assert")), [1, 0])
        self.assertEqual(shortest(SMALL["deadlock"], "buffers", ("standstill",)), [0, 1])
        program = make_program((("store", 0, 0),), (("store", 1, 0),), variables=shared(0, 0))
        thing = ("end", end_of(program, "buffers", [0, 1, -1, -2]))
        self.assertEqual(shortest(program, "buffers", thing), [0, -1, 1, -2])

    def test_a_thing_of_the_first_state(self):
        program = make_program((("assert", 1),), (("load", 1, 0),), (("store", 0, 0),), variables=((0, True),))
        self.assertEqual(shortest(program, "buffers", ("failed", 0, "assert")), [])
        self.assertEqual(shortest(program, "buffers", ("race", 0, 1, 2)), [])
        self.assertEqual(shortest(make_program(()), "buffers", ("end", end_of(make_program(()), "buffers", []))), [])
        self.assertEqual(shortest(make_program((("join", 0),)), "sequential", ("standstill",)), [])

    def test_a_new_list_each_time(self):
        thing = ("standstill",)
        shortest(SMALL["deadlock"], "sequential", thing).append(7)
        self.assertEqual(shortest(SMALL["deadlock"], "sequential", thing), [0, 1])


class NoToldThings(unittest.TestCase):
    PROGRAM = make_program(fences(1), (("store", 0, 0),), variables=((0, True), (5, False)), locks=2)

    def refuse(self, *wrong):
        for thing in wrong:
            for memory in MEMORIES:
                with self.subTest(thing=thing, memory=memory):
                    with self.assertRaises(BadArgument):
                        shortest(self.PROGRAM, memory, thing)

    def accept(self, *told):
        for thing in told:
            for memory in MEMORIES:
                with self.subTest(thing=thing, memory=memory):
                    self.assertIsNone(shortest(self.PROGRAM, memory, thing))

    def test_other_kinds_of_values(self):
        self.refuse(None, 0, True, "", "standstill", (), [], ["standstill"], {}, set(), (None,), (0,), (True,), ((),),
                    ([],), ("",), ("Standstill",), ("stand",), (("standstill",),), b"cut", ({},), (["cut"], 0))

    def test_failed(self):
        self.accept(*[("failed", t, word) for t in (0, 3, 11, 26, 27) for word in WORDS])
        self.refuse(("failed",), ("failed", 0), ("failed", "assert"), ("failed", 0, "assert", 0),
                    ["failed", 0, "assert"], ("failed", -1, "assert"), ("failed", 28, "assert"),
                    ("failed", 10 ** 30, "assert"), ("failed", True, "assert"), ("failed", None, "assert"),
                    ("failed", "0", "assert"), ("failed", 0.0, "assert"), ("failed", [0], "assert"),
                    ("failed", "assert", 0))
        for word in ("finished", "cut", "waiting", "Assert", "", None, 0, True, ["assert"], ("assert",), {}):
            self.refuse(("failed", 0, word))

    def test_cut(self):
        self.accept(("cut", 0), ("cut", 27))
        self.refuse(("cut",), ("cut", 28), ("cut", -1), ("cut", False), ("cut", None), ("cut", "0"), ("cut", 0, 1),
                    ("cut", (0,)), ["cut", 0], ("cut", 0.0))

    def test_standstill(self):
        self.accept(("standstill",))
        self.refuse(("standstill", 0), ("standstill", None), ("standstill", ()))

    def test_race(self):
        self.accept(("race", 0, 0, 1), ("race", 0, 0, 27), ("race", 0, 26, 27), ("race", 0, 1, 2))
        self.refuse(("race",), ("race", 0), ("race", 0, 0), ("race", 0, 0, 1, 2), ("race", 0, 1, 0), ("race", 0, 1, 1),
                    ("race", 0, -1, 1), ("race", 0, 0, 28), ("race", 0, False, 1), ("race", 0, 0, True),
                    ("race", False, 0, 1), ("race", 1, 0, 1), ("race", 2, 0, 1), ("race", -1, 0, 1),
                    ("race", None, 0, 1), ("race", 0, None, 1), ("race", 0, 0, None), ("race", "0", 0, 1),
                    ("race", 0, "0", 1),
                    ["race", 0, 0, 1], ("race", 0, (0, 1)), ("race", -2, 0, 1))

    def test_ends(self):
        row = (0, "finished", (0, 0, 0, 0))
        values, locks = (0, 5), (None, None)
        self.accept(
            ("end", ((row,), values, locks)),
            ("end", ((), values, locks)),
            ("end", ((row, (27, "held", (1, 2, 3, 4))), values, locks)),
            ("end", ((row,), (-999, 999), (27, 0))),
            ("end", (((5, "cut", (999, -999, 0, 0)), (6, "waiting", (0, 0, 0, 0))), values, locks)),
            *[("end", (((0, how, (0, 0, 0, 0)),), values, (3, 3))) for how in (*WORDS, "finished", "cut", "waiting")],
        )
        self.refuse(
            ("end",), ("end", None), ("end", ()), ("end", (row,), values, locks), ("end", [(row,), values, locks]),
            ["end", ((row,), values, locks)], ("ends", ((row,), values, locks)), ("end", ((row,), values)),
            ("end", ((row,), values, locks, ())),
            ("end", ((row,), values, locks), 0), ("end", 0), ("end", "end"), ("end", {}),
        )

    def test_values_and_locks_of_ends(self):
        row = (0, "finished", (0, 0, 0, 0))
        for values in ((), (0,), (0, 5, 0), (0, None), (0, True), (False, 5), (0, "5"), [0, 5], None, 0, (0, 1000),
                       (-1000, 0), (0, (5,)), (0, 5.0)):
            self.refuse(("end", ((row,), values, (None, None))))
        for locks in ((), (None,), (None, None, None), (None, True), (False, None), (None, "0"), [None, None], None, 2,
                      (None, 28), (-1, None), ((0,), None), (0.0, None)):
            self.refuse(("end", ((row,), (0, 5), locks)))

    def test_rows_of_ends(self):
        good = (3, "finished", (0, 0, 0, 0))
        for rows in (None, 0, [good], {good: 0}, good, (None,), ([3, "finished", (0, 0, 0, 0)],), (good, good),
                     ((4, "finished", (0, 0, 0, 0)), good), (good[:2],), ((*good, 0),), ((),), (good, ()),
                     "rows", (3,)):
            self.refuse(("end", (rows, (0, 5), (None, None))))
        for number in (-1, 28, True, None, "3", 3.0, (3,), [3]):
            self.refuse(("end", (((number, *good[1:]),), (0, 5), (None, None))))
        for how in ("", "Finished", "ended", "race", None, 0, True, ["cut"], ("cut",)):
            self.refuse(("end", (((3, how, (0, 0, 0, 0)),), (0, 5), (None, None))))
        for registers in ((), (0, 0, 0), (0, 0, 0, 0, 0), [0, 0, 0, 0], None, 0, (0, 0, 0, None), (True, 0, 0, 0),
                          (0, 0, 0, "0"), (0, 0, 0, 1000), (-1000, 0, 0, 0), (0, 0, 0, 0.0), (0, 0, 0, (0,))):
            self.refuse(("end", (((3, "cut", registers),), (0, 5), (None, None))))

    def test_programs_without_variables_or_locks(self):
        program = make_program(FENCE)
        self.assertEqual(shortest(program, "sequential", ("end", (((0, "finished", (0, 0, 0, 0)),), (), ()))), [0])
        for thing in (("race", 0, 0, 1), ("race", -1, 0, 1), ("end", ((), (0,), ())), ("end", ((), (), (None,)))):
            with self.assertRaises(BadArgument):
                shortest(program, "sequential", thing)


class TooManyStates(unittest.TestCase):
    def test_the_bound_is_exact(self):
        for memory in MEMORIES:
            self.assertEqual(len(all_states(STATES_3000, memory)), 3000)
            self.assertEqual(len(all_states(STATES_3001, memory)), 3001)
            self.assertEqual(things(STATES_3000, memory), [])
            told = ends(STATES_3000, memory)
            self.assertEqual([[row[1] for row in rows] for rows, _, _ in told], [["finished"] * 4])
            self.assertEqual(len(shortest(STATES_3000, memory, ("end", told[0]))), 4 + 8 + 7 + 8)
            self.assertIsNone(shortest(STATES_3000, memory, ("standstill",)))

    def test_whatever_is_asked(self):
        first = ("failed", 0, "assert")
        for memory in MEMORIES:
            for thing in (("standstill",), ("cut", 0), first, ("end", end_of(STATES_3001, memory, []))):
                with self.assertRaises(TooLarge):
                    shortest(STATES_3001, memory, thing)
            with self.assertRaises(TooLarge):
                things(STATES_3001, memory)
            with self.assertRaises(TooLarge):
                ends(STATES_3001, memory)

    def test_also_for_what_holds_in_the_first_state(self):
        codes = (fences(8), (("assert", 1),), (("spawn", 1, 0, 0), *fences(7)))
        thing = ("failed", 0, "assert")
        self.assertEqual(shortest(make_program(*codes, threads=((1, 0), (0, 0), (2, 0))), "buffers", thing), [])
        with self.assertRaises(TooLarge):
            shortest(make_program(*codes, threads=((1, 0), (0, 0), (0, 0), (2, 0))), "buffers", thing)

    def test_far_above_the_bound(self):
        program = make_program(fences(8), threads=((0, 0),) * 4)
        for memory in MEMORIES:
            with self.assertRaises(TooLarge):
                things(program, memory)


class Refused(unittest.TestCase):
    def test_what_is_no_program(self):
        wrong = ((), 0, ((),), ((1, 0),))
        for memory in ("sequential", "graphs"):
            for asked in (things, ends):
                with self.assertRaises(BadProgram):
                    asked(wrong, memory)
            for thing in (("standstill",), None):
                with self.assertRaises(BadProgram):
                    shortest(wrong, memory, thing)

    def test_other_memories(self):
        for memory in ("graphs", "", "Buffers"):
            for program in (SMALL["one step"], STATES_3001):
                for asked in (things, ends):
                    with self.assertRaises(BadArgument):
                        asked(program, memory)
                with self.assertRaises(BadArgument):
                    shortest(program, memory, ("standstill",))

    def test_no_told_thing_before_too_large(self):
        for memory in MEMORIES:
            for thing in (None, ("cut", 28), ("race", 0, 0, 1), ("end", ())):
                with self.assertRaises(BadArgument):
                    shortest(STATES_3001, memory, thing)


if __name__ == "__main__":
    unittest.main()
