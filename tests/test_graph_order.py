"""The order of the events of a graph, and consistent graphs (points 20 and 21)."""

import unittest

from everyweave.errors import BadArgument, BadGraph, BadProgram
from everyweave.graphs import comes_before, empty_graph, graphs, growths, is_execution
from tests import literal
from tests.helpers import build, make_program, shared
from tests.samples import FENCE, GRAPHS, SMALL, fences

LOAD, STORE = ("load", 1, 0), ("store", 0, 0)
PLAIN = ((0, True),)


def order_of(program, graph):
    """The set of pairs of events of which the first one comes before the second one."""
    pairs = [event[:2] for event in graph[0]]
    return {(first, second) for first in pairs for second in pairs if comes_before(program, graph, first, second)}


class Arrows(unittest.TestCase):
    def test_all_of_them_as_the_words_of_the_document_tell(self):
        for name, program in (*SMALL.items(), *GRAPHS.items()):
            for graph in literal.all_graphs(program):
                with self.subTest(name):
                    self.assertEqual(order_of(program, graph), literal.comes_before_of(program, graph))

    def test_true_and_false(self):
        program = make_program(fences(2))
        graph = build(program, 0, 0)
        self.assertIs(comes_before(program, graph, (0, 0), (0, 1)), True)
        self.assertIs(comes_before(program, graph, (0, 1), (0, 0)), False)
        self.assertIs(comes_before(program, graph, (0, 0), (0, 0)), False)

    def test_from_each_event_of_a_thread_to_its_next_one(self):
        program = make_program((LOAD, STORE, LOAD), (LOAD, STORE, LOAD), variables=PLAIN)
        graph = build(program, 0, (0, 0), 0, (1, None), (1, 0), (1, (1, 1)))
        self.assertEqual(order_of(program, graph), {((t, n), (t, m)) for t in (0, 1) for n in range(3) for m in range(3)
                                                    if n < m})

    def test_from_a_spawn_to_the_first_event_of_the_new_thread(self):
        program = make_program((("spawn", 1, 1, 0), ("load", 1, 0)), (LOAD, LOAD), variables=PLAIN, threads=((0, 0),))
        graph = build(program, 0, 0, 4, 4)
        self.assertEqual(order_of(program, graph), {((0, 0), (0, 1)), ((0, 0), (4, 0)), ((0, 0), (4, 1)),
                                                    ((4, 0), (4, 1))})

    def test_from_the_last_event_of_a_thread_to_its_joins(self):
        program = make_program((("const", 2, 1), ("join", 2)), (STORE, STORE), (("const", 2, 1), ("join", 2)),
                               variables=PLAIN)
        graph = build(program, 1, (1, 1), 0, 2)
        self.assertEqual(order_of(program, graph), {
            ((1, 0), (1, 1)), ((1, 0), (0, 0)), ((1, 1), (0, 0)), ((1, 0), (2, 0)), ((1, 1), (2, 0)),
        })

    def test_from_a_thread_that_has_failed_to_its_join(self):
        program = make_program((("const", 2, 1), ("join", 2)), (STORE, ("assert", 1)), variables=PLAIN)
        self.assertEqual(order_of(program, build(program, 1, 0)), {((1, 0), (0, 0))})

    def test_a_joined_thread_without_events(self):
        # The thread 6 is spawned by the thread 1 and ends at once; the thread 0 joins it.
        program = make_program((("join", 0),), (LOAD, ("spawn", 1, 2, 0), LOAD), (), variables=PLAIN,
                               threads=((0, 6), (1, 0)))
        graph = build(program, 1, 1, 1, 0)
        self.assertTrue(comes_before(program, graph, (1, 1), (0, 0)))
        self.assertTrue(comes_before(program, graph, (1, 0), (0, 0)))
        self.assertFalse(comes_before(program, graph, (1, 2), (0, 0)))
        # A thread of the program itself was not spawned, so nothing comes before the join of it.
        program = make_program((("const", 2, 1), ("join", 2)), (), FENCE)
        self.assertEqual(order_of(program, build(program, 2, 0)), set())

    def test_from_a_writer_to_its_readers(self):
        readers = {"load": ("load", 1, 0), "await": ("await", 1, 0, 0), "update": ("swap", 1, 0, 0),
                   "miss": ("cas", 1, 0, 3, 3)}
        for kind, reader in readers.items():
            program = make_program((STORE,), (reader,), variables=shared(0), threads=((0, 1), (1, 1)))
            graph = build(program, 0, (1, (0, 0)))
            self.assertEqual(graph[0][1][2], kind)
            self.assertEqual(order_of(program, graph), {((0, 0), (1, 0))}, kind)

    def test_from_an_update_to_its_readers(self):
        program = make_program((("fetch", 1, 0, 0),), (LOAD,), variables=shared(0), threads=((0, 1), (1, 1)))
        self.assertEqual(order_of(program, build(program, 0, (1, (0, 0)))), {((0, 0), (1, 0))})

    def test_the_first_value_and_the_order_of_a_variable_give_no_arrow(self):
        program = make_program((STORE,), (LOAD,), (STORE,), variables=shared(0), threads=((0, 1), (1, 1), (2, 2)))
        self.assertEqual(order_of(program, build(program, 0, (1, None), (2, 1))), set())

    def test_the_sources_of_a_plain_variable_give_no_arrow(self):
        program = make_program((STORE,), (LOAD,), variables=PLAIN, threads=((0, 1), (1, 1)))
        graph = build(program, 0, (1, (0, 0)))
        self.assertEqual(graph[1], (((1, 0), (0, 0)),))
        self.assertEqual(order_of(program, graph), set())

    def test_along_the_order_of_a_lock(self):
        code = ("lock", 0), ("unlock", 0)
        program = make_program(code, code, code, (("lock", 1),), locks=2)
        graph = build(program, 1, 1, 0, 0, 2, 3, 2)
        row = [(1, 0), (1, 1), (0, 0), (0, 1), (2, 0), (2, 1)]
        self.assertEqual(order_of(program, graph), {(a, b) for at, a in enumerate(row) for b in row[at + 1:]})

    def test_along_the_order_of_the_fences(self):
        program = make_program(FENCE, FENCE, FENCE)
        self.assertEqual(order_of(program, build(program, 2, 0, 1)),
                         {((2, 0), (0, 0)), ((2, 0), (1, 0)), ((0, 0), (1, 0))})

    def test_ways_of_several_arrows(self):
        program = make_program((STORE, ("store", 1, 0)), (("await", 1, 1, 0), FENCE[0]), (FENCE[0], LOAD),
                               variables=((0, True), (0, False)), threads=((0, 1), (1, 1), (2, 0)))
        graph = build(program, 0, 0, 1, 1, 2, 2)
        self.assertTrue(comes_before(program, graph, (0, 0), (2, 1)))
        self.assertEqual(graph[1][-1], ((2, 1), (0, 0)))


class Consistent(unittest.TestCase):
    """Graphs by hand: of each it is told in which of the five ways it is not consistent."""

    def check(self, program, graph, ways):
        self.assertEqual(literal.broken(program, graph), ways)
        self.assertIs(is_execution(program, graph), False)
        with self.assertRaises(BadGraph):
            growths(program, graph)

    def test_an_event_before_itself(self):
        program = make_program(fences(2))
        events = ((0, 0, "fence", None, None, None), (0, 1, "fence", None, None, None))
        self.check(program, (events, (), (((0, 1), (0, 0)),)), {1})
        self.assertIs(is_execution(program, (events, (), (((0, 0), (0, 1)),))), True)

    def test_a_cycle_through_readers(self):
        program = make_program((("load", 1, 0), ("store", 1, 0)), (("load", 1, 1), ("store", 0, 0)),
                               variables=shared(0, 0), threads=((0, 1), (1, 2)))
        graph = (((0, 0, "load", 0, 2, None), (0, 1, "store", 1, None, 1),
                  (1, 0, "load", 1, 1, None), (1, 1, "store", 0, None, 2)),
                 (((0, 0), (1, 1)), ((1, 0), (0, 1))), (((1, 1),), ((0, 1),), ()))
        self.check(program, graph, {1, 3})

    def test_a_writer_before_one_that_stands_ahead_of_it(self):
        for variables in (shared(0), PLAIN):
            program = make_program((STORE, STORE), variables=variables)
            events = ((0, 0, "store", 0, None, 0), (0, 1, "store", 0, None, 0))
            self.check(program, (events, (), (((0, 1), (0, 0)), ())), {2})
            self.assertIs(is_execution(program, (events, (), (((0, 0), (0, 1)), ()))), True)

    def test_a_reader_before_its_writer(self):
        program = make_program((LOAD, STORE), variables=PLAIN)
        events = ((0, 0, "load", 0, 0, None), (0, 1, "store", 0, None, 0))
        self.check(program, (events, (((0, 0), (0, 1)),), (((0, 1),), ())), {3})
        self.assertIs(is_execution(program, (events, (((0, 0), None),), (((0, 1),), ()))), True)

    def test_a_reader_of_the_first_value_behind_a_writer(self):
        for variables in (shared(0), PLAIN):
            program = make_program((STORE, LOAD), variables=variables)
            events = ((0, 0, "store", 0, None, 0), (0, 1, "load", 0, 0, None))
            self.check(program, (events, (((0, 1), None),), (((0, 0),), ())), {4})
            self.assertIs(is_execution(program, (events, (((0, 1), (0, 0)),), (((0, 0),), ()))), True)

    def test_a_reader_of_a_writer_behind_a_later_one(self):
        for variables in (shared(0), PLAIN):
            program = make_program((STORE,), (STORE, LOAD), variables=variables)
            events = ((0, 0, "store", 0, None, 0), (1, 0, "store", 0, None, 0), (1, 1, "load", 0, 0, None))
            graph = (events, (((1, 1), (0, 0)),), (((0, 0), (1, 0)), ()))
            self.check(program, graph, {4})
            self.assertIs(is_execution(program, (*graph[:2], (((1, 0), (0, 0)), ()))), True)

    def test_an_update_that_is_not_directly_behind_its_writer(self):
        program = make_program((STORE,), (("swap", 1, 0, 0),), (STORE,), variables=shared(0))
        events = ((0, 0, "store", 0, None, 0), (1, 0, "update", 0, 0, 0), (2, 0, "store", 0, None, 0))
        row = ((0, 0), (1, 0), (2, 0))
        self.check(program, (events, (((1, 0), (0, 0)),), ((row[0], row[2], row[1]), ())), {5})
        self.check(program, (events, (((1, 0), None),), (row, ())), {5})
        # Here the writers that are read stand behind the updates, too.
        self.check(program, (events, (((1, 0), (2, 0)),), (row, ())), {2, 5})
        self.check(program, (events, (((1, 0), (0, 0)),), ((row[1], row[0], row[2]), ())), {2, 5})
        self.assertIs(is_execution(program, (events, (((1, 0), (0, 0)),), (row, ()))), True)
        self.assertIs(is_execution(program, (events, (((1, 0), None),), ((row[1], row[2], row[0]), ()))), True)

    def test_two_updates_of_one_writer(self):
        program = make_program((("swap", 1, 0, 0),), (("swap", 1, 0, 0),), variables=shared(0))
        events = ((0, 0, "update", 0, 0, 0), (1, 0, "update", 0, 0, 0))
        self.check(program, (events, (((0, 0), None), ((1, 0), None)), (((0, 0), (1, 0)), ())), {5})

    def test_consistent_ones_that_the_empty_graph_does_not_grow_to(self):
        # Each thread would read what the other one has stored before: with plain variables no order forbids it.
        program = GRAPHS["load buffering"]
        graph = (((0, 0, "load", 0, 2, None), (0, 1, "store", 1, None, 1),
                  (1, 0, "load", 1, 1, None), (1, 1, "store", 0, None, 2)),
                 (((0, 0), (1, 1)), ((1, 0), (0, 1))), (((1, 1),), ((0, 1),), ()))
        self.check(program, graph, set())
        # Two threads hold one lock.
        program = make_program((("lock", 0),), (("lock", 0),), locks=1)
        events = ((0, 0, "lock", 0, None, None), (1, 0, "lock", 0, None, None))
        self.check(program, (events, (), (((0, 0), (1, 0)), ())), set())


class WhatTheOrdersForbid(unittest.TestCase):
    def registers(self, name):
        """The first loaded values of the threads that load, in all whole graphs."""
        found = set()
        for events, _, _ in graphs(GRAPHS[name]):
            found.add(tuple(event[4] for event in events if event[2] in ("load", "await")))
        return found

    def test_what_is_published_is_read(self):
        self.assertEqual(self.registers("publishing"), {(0, 0), (0, 1), (1, 1)})
        self.assertEqual(self.registers("publishing and waiting"), {(1, 1, 1, 1)})
        self.assertEqual(self.registers("publishing plainly"), {(0, 0), (0, 1), (1, 0), (1, 1)})

    def test_store_buffering(self):
        graph = [tuple(event[4] for event in events if event[2] == "load")
                 for events, _, _ in graphs(SMALL["store buffering"])]
        self.assertEqual(sorted(graph), [(0, 0), (0, 1), (2, 0), (2, 1)])
        self.assertEqual(self.registers("store buffering with fences"), {(0, 1), (1, 0), (1, 1)})

    def test_independent_readers_need_not_agree(self):
        self.assertIn((1, 0, 1, 0), self.registers("independent readers"))

    def test_load_buffering_is_not_there(self):
        self.assertEqual(self.registers("load buffering"), {(0, 0), (0, 1), (2, 0)})

    def test_two_writers_may_be_ordered_against_each_other(self):
        orders = {orders[:2] for _, _, orders in graphs(GRAPHS["two writers"])}
        self.assertIn((((1, 1), (0, 0)), ((0, 1), (1, 0))), orders)
        self.assertEqual(len(orders), 4)


class Refused(unittest.TestCase):
    PROGRAM = SMALL["plain race"]

    def test_what_is_no_program(self):
        with self.assertRaises(BadProgram):
            comes_before(((), 0, ((),), ()), None, None, None)
        with self.assertRaises(BadProgram):
            comes_before(((), 0, ((),), ()), ((), (), ((),)), (0, 0), (0, 1))

    def test_what_is_no_graph_ahead_of_what_is_no_pair(self):
        for wrong in (None, ((), (), ()), (((0, 0, "fence", None, None, None),), (), ((), ()))):
            for pair in ((0, 0), (9, 9), None):
                with self.assertRaises(BadGraph):
                    comes_before(self.PROGRAM, wrong, pair, pair)

    def test_pairs_that_are_not_in_the_graph(self):
        graph = build(self.PROGRAM, 0)
        for wrong in ((0, 1), (1, 0), (0, -1), (-1, 0), (4, 0), (0, 10 ** 30)):
            for first, second in (((0, 0), wrong), (wrong, (0, 0)), (wrong, wrong)):
                with self.assertRaises(BadArgument):
                    comes_before(self.PROGRAM, graph, first, second)
        with self.assertRaises(BadArgument):
            comes_before(self.PROGRAM, empty_graph(self.PROGRAM), (0, 0), (0, 0))

    def test_true_and_false_are_no_integers(self):
        graph = build(self.PROGRAM, 0, (1, None))
        self.assertIs(comes_before(self.PROGRAM, graph, (0, 0), (1, 0)), False)
        for wrong in ((True, 0), (1, False), [1, 0], (1, 0, 0), None, (1,), ((1, 0),)):
            with self.assertRaises(BadArgument):
                comes_before(self.PROGRAM, graph, (0, 0), wrong)


if __name__ == "__main__":
    unittest.main()
