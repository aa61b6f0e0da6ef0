"""Races of graphs, and what is told of whole graphs (point 24)."""

import unittest

from everyweave.errors import BadGraph, BadProgram
from everyweave.graphs import empty_graph, graph_races, graph_things, graphs
from everyweave.things import things
from tests import literal
from tests.helpers import MEMORIES, build, make_program, shared
from tests.samples import FENCE, GRAPHS, SMALL

ALL = {**SMALL, **GRAPHS}
LOAD, STORE = ("load", 1, 0), ("store", 0, 0)
PLAIN = ((0, True),)


class Races(unittest.TestCase):
    def test_of_all_graphs_whole_or_not(self):
        for name, program in ALL.items():
            for graph in literal.all_graphs(program):
                self.assertEqual(graph_races(program, graph), sorted(literal.races_of(program, graph)), name)

    def races(self, *codes, variables=PLAIN, locks=0, threads=None):
        """The races of all whole graphs together."""
        program = make_program(*codes, variables=variables, locks=locks, threads=threads)
        return sorted({race for graph in graphs(program) for race in graph_races(program, graph)})

    def test_loads_and_stores(self):
        self.assertEqual(self.races((LOAD,), (LOAD,)), [])
        self.assertEqual(self.races((LOAD,), (STORE,)), [(0, 0, 1)])
        self.assertEqual(self.races((STORE,), (LOAD,)), [(0, 0, 1)])
        self.assertEqual(self.races((STORE,), (STORE,)), [(0, 0, 1)])
        self.assertEqual(self.races((LOAD,), (STORE,), (LOAD,)), [(0, 0, 1), (0, 1, 2)])

    def test_a_reader_and_its_own_writer_race(self):
        program = SMALL["plain race"]
        self.assertEqual(graph_races(program, build(program, 0, (1, (0, 0)))), [(0, 0, 1)])
        self.assertEqual(graph_races(program, build(program, 0, (1, None))), [(0, 0, 1)])

    def test_of_one_thread_there_is_none(self):
        self.assertEqual(self.races((STORE, LOAD, STORE)), [])

    def test_of_other_variables_there_is_none(self):
        self.assertEqual(self.races((STORE,), (STORE,), variables=shared(0)), [])
        self.assertEqual(self.races((STORE,), (("store", 1, 0),), variables=((0, True), (0, True))), [])
        self.assertEqual(self.races((STORE, ("store", 1, 0)), (("store", 1, 0), LOAD),
                                    variables=((0, True), (0, True))), [(0, 0, 1), (1, 0, 1)])

    def test_a_race_is_told_once(self):
        program = make_program((STORE, STORE, LOAD), (STORE, LOAD), variables=PLAIN)
        for graph in graphs(program):
            self.assertEqual(graph_races(program, graph), [(0, 0, 1)])

    def test_ascending(self):
        self.assertEqual(self.races((("spawn", 1, 1, 0), STORE), (STORE,), threads=((0, 0), (1, 0))),
                         [(0, 0, 1), (0, 0, 4), (0, 1, 4)])

    def test_orders_that_take_races_away(self):
        guarded = (("lock", 0), STORE, ("unlock", 0))
        self.assertEqual(self.races(guarded, guarded, locks=1), [])
        self.assertEqual(self.races(guarded, (STORE,), locks=1), [(0, 0, 1)])
        self.assertEqual(self.races(guarded, (("lock", 1), STORE, ("unlock", 1)), locks=2), [(0, 0, 1)])
        self.assertEqual(self.races((STORE, ("spawn", 1, 1, 0), ("join", 1), STORE), (STORE,), threads=((0, 0),)), [])
        self.assertEqual(self.races((("spawn", 1, 1, 0), STORE, ("join", 1)), (STORE,), threads=((0, 0),)),
                         [(0, 0, 4)])

    def test_a_fence_orders_in_some_graphs_alone(self):
        program = make_program((STORE, FENCE[0]), (FENCE[0], LOAD), variables=PLAIN)
        self.assertEqual([graph_races(program, graph) for graph in graphs(program) if graph[2][-1][0] == (0, 1)], [[]])
        self.assertEqual({race for graph in graphs(program) for race in graph_races(program, graph)}, {(0, 0, 1)})

    def test_what_is_published(self):
        self.assertEqual(graph_things(GRAPHS["publishing and waiting"]), [])
        program = GRAPHS["publishing"]
        for graph in graphs(program):
            flag = [event[4] for event in graph[0] if event[2] == "load"][0]
            self.assertEqual(graph_races(program, graph), [] if flag == 1 else [(0, 0, 1)])

    def test_the_empty_graph(self):
        for program in ALL.values():
            self.assertEqual(graph_races(program, empty_graph(program)), [])


class Things(unittest.TestCase):
    def test_all_that_hold_for_some_whole_graph_and_no_others(self):
        for name, program in ALL.items():
            found = set()
            for graph in literal.whole_graphs(program):
                found |= literal.things_of(program, graph)
            self.assertEqual(graph_things(program), sorted(found), name)

    def test_failed_threads(self):
        program = make_program((("assert", 1),), (("const", 1, 999), ("mul", 1, 1, 1)), (("jump", 0),),
                               (("unlock", 0),), locks=1)
        self.assertEqual(graph_things(program), [
            ("failed", 0, "assert"), ("failed", 1, "range"), ("failed", 2, "loop"), ("failed", 3, "held"),
        ])
        self.assertEqual(graph_things(SMALL["too many children"]), [("failed", 0, "spawn")])
        self.assertEqual(graph_things(GRAPHS["fetch beyond the values"]), [("failed", 0, "range")])
        self.assertEqual(graph_things(GRAPHS["a child without events"]), [("failed", 4, "assert")])

    def test_a_failure_of_this_memory_alone(self):
        # Behind both threads the variables are 1 and 2 only if each thread is the last one to its first variable.
        looking = (("join", 1), ("const", 2, 1), ("join", 2), ("load", 1, 0), ("load", 2, 1), ("less", 3, 1, 2),
                   ("const", 2, 0), ("eq", 3, 3, 2), ("assert", 3))
        program = make_program((STORE, ("store", 1, 0)), (("store", 1, 0), STORE), looking, variables=shared(0, 0),
                               threads=((0, 1), (1, 2), (2, 0)))
        self.assertEqual(graph_things(program), [("failed", 2, "assert")])
        for memory in MEMORIES:
            self.assertEqual(things(program, memory), [])

    def test_threads_that_are_cut(self):
        self.assertEqual(graph_things(SMALL["cut"]), [("cut", 0)])
        # A thread that is cut does not wait, but what joins it does.
        program = make_program((("fence",), ("jump", 0)), (("join", 0),), threads=((0, 0), (1, 0)))
        self.assertEqual(graph_things(program), [("cut", 0), ("standstill",)])

    def test_standstills(self):
        self.assertEqual(graph_things(SMALL["deadlock"]), [("standstill",)])
        self.assertEqual(graph_things(SMALL["join of what is never"]), [("standstill",)])
        self.assertEqual(graph_things(GRAPHS["held for ever"]), [("failed", 0, "assert"), ("standstill",)])
        self.assertEqual(graph_things(SMALL["missed value"]), [])
        self.assertEqual(graph_things(GRAPHS["an elder writer"]), [])
        self.assertEqual(graph_things(SMALL["nothing to do"]), [])
        self.assertEqual(graph_things(SMALL["mutex"]), [])

    def test_ascending(self):
        program = make_program((("assert", 1),), (("fence",), ("jump", 0)), (LOAD,), (STORE, ("join", 0)),
                               variables=PLAIN, threads=((1, 0), (0, 0), (2, 0), (3, 27)))
        self.assertEqual(graph_things(program), [("cut", 0), ("failed", 1, "assert"), ("race", 0, 2, 3),
                                                 ("standstill",)])


class Refused(unittest.TestCase):
    def test_what_is_no_program_or_no_graph(self):
        for graph in (((), (), ((),)), None):
            with self.assertRaises(BadProgram):
                graph_races(((), 0, ((),), ((0, 1000),)), graph)
        program = SMALL["plain race"]
        graph = build(program, 0, (1, None))
        for wrong in (None, graph[:2], list(graph), (graph[0], (), graph[2]), ((), (), ((),)), (*graph, ())):
            with self.assertRaises(BadGraph):
                graph_races(program, wrong)


if __name__ == "__main__":
    unittest.main()
