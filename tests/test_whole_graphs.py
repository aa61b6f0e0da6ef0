"""Whole graphs, what is an execution, the ends, and the bound (point 23)."""

import unittest
from itertools import permutations

from everyweave.errors import BadGraph, BadProgram, TooLarge
from everyweave.graphs import (comes_before, empty_graph, graph_ends, graph_races, graph_things, graphs, growths,
                               is_execution)
from everyweave.things import ends
from tests import literal
from tests.helpers import build, make_program, reached_graphs, shared
from tests.samples import FENCE, GRAPHS, GRAPHS_1500, GRAPHS_1501, SMALL, fences, stores

ALL = {**SMALL, **GRAPHS}


class Whole(unittest.TestCase):
    def test_each_once_and_ascending(self):
        for name, program in ALL.items():
            with self.subTest(name):
                whole = literal.whole_graphs(program)
                self.assertEqual(graphs(program), sorted(whole, key=literal.sort_key))

    def test_they_grow_by_no_event_and_all_others_do(self):
        for name, program in ALL.items():
            whole = graphs(program)
            for graph in reached_graphs(program):
                self.assertEqual(growths(program, graph) == [], graph in whole, name)

    def test_examples(self):
        nothing = SMALL["nothing to do"]
        self.assertEqual(graphs(nothing), [((), (), ((),))])
        self.assertEqual(graphs(SMALL["two fences"]), [
            (((0, 0, "fence", None, None, None), (1, 0, "fence", None, None, None)), (), (order,))
            for order in (((0, 0), (1, 0)), ((1, 0), (0, 0)))
        ])
        store = (0, 0, "store", 0, None, 1)
        self.assertEqual(graphs(SMALL["plain race"]), [
            ((store, (1, 0, "load", 0, 0, None)), (((1, 0), None),), (((0, 0),), ())),
            ((store, (1, 0, "load", 0, 1, None)), (((1, 0), (0, 0)),), (((0, 0),), ())),
        ])

    def test_none_is_less_than_every_pair(self):
        # Both values are 0, so the graphs differ by their sources alone.
        program = make_program((("load", 1, 0),), (("store", 0, 0),), variables=shared(0))
        self.assertEqual([sources for _, sources, _ in graphs(program)], [(((0, 0), None),), (((0, 0), (1, 0)),)])
        program = make_program((("load", 1, 0), ("load", 1, 0)), (("store", 0, 0),), variables=shared(0))
        self.assertEqual([[writer for _, writer in sources] for _, sources, _ in graphs(program)],
                         [[None, None], [None, (1, 0)], [(1, 0), (1, 0)]])

    def test_orders_come_last(self):
        program = make_program(stores(0, 1), stores(0, 1), stores(0, 1), variables=shared(0))
        rows = [orders[0] for _, _, orders in graphs(program)]
        self.assertEqual(rows, [order for order in permutations(((0, 0), (1, 0), (2, 0)))])

    def test_a_graph_is_counted_once_however_it_grows(self):
        program = make_program(fences(1), (("load", 1, 0),) * 3, (("load", 1, 1),) * 3, variables=shared(0, 0))
        self.assertEqual(len(graphs(program)), 1)

    def test_new_lists_each_time(self):
        for told in (graphs, graph_ends, graph_things):
            told(SMALL["deadlock"]).append(None)
            self.assertNotIn(None, told(SMALL["deadlock"]))


class Executions(unittest.TestCase):
    def test_all_that_the_empty_graph_grows_to(self):
        for name, program in ALL.items():
            for graph in literal.all_graphs(program):
                self.assertIs(is_execution(program, graph), True, name)

    def test_what_grows_by_inconsistent_steps(self):
        for name, program in ALL.items():
            known = literal.all_graphs(program)
            for graph in known:
                for other in literal.candidates(program, graph):
                    self.assertIs(is_execution(program, other), other in known, name)

    def test_graphs_of_another_program(self):
        graph = build(SMALL["counter"], (0, None))
        self.assertIs(is_execution(SMALL["counter"], graph), True)
        self.assertIs(is_execution(SMALL["equal stores"], graph), False)
        self.assertIs(is_execution(SMALL["two fences"], graph), False)


class Changed(unittest.TestCase):
    """Graphs of which something is changed are executions only if the empty graph grows to them as well."""

    NAMES = ("store buffering", "counter", "cas", "mutex", "missed value", "children", "two fences", "failures",
             "publishing", "updates", "cas by elder writers", "joined children", "plain mutex and a visitor")

    def check(self, change):
        refused = 0
        for name in self.NAMES:
            program = ALL[name]
            known = literal.all_graphs(program)
            for graph in known:
                for other in change(graph):
                    self.assertIs(is_execution(program, other), other in known, (name, other))
                    refused += other not in known
        self.assertGreater(refused, 100)

    def test_events_left_out(self):
        def change(graph):
            events, sources, orders = graph
            for event in events:
                pair = event[:2]
                fewer = tuple(one for one in events if one != event)
                yield (fewer, sources, orders)
                yield (fewer, tuple(row for row in sources if row[0] != pair),
                       tuple(tuple(one for one in order if one != pair) for order in orders))
        self.check(change)

    def test_events_doubled_and_disordered(self):
        def change(graph):
            events, sources, orders = graph
            for at, event in enumerate(events):
                yield ((*events[:at], event, *events[at:]), sources, orders)
                yield ((*events[:at], *events[at + 1:], event), sources, orders)
        self.check(change)

    def test_events_changed(self):
        def change(graph):
            events, sources, orders = graph
            for at, event in enumerate(events):
                for part, others in enumerate(((0, 1, 4, 99), (0, 1, 7), ("load", "store", "update", "miss", "own", ""),
                                               (0, 1, 4, None), (0, 1, 2, None), (0, 1, 2, None))):
                    for other in others:
                        changed = (*event[:part], other, *event[part + 1:])
                        yield ((*events[:at], changed, *events[at + 1:]), sources, orders)
        self.check(change)

    def test_sources_exchanged_left_out_doubled_and_disordered(self):
        def change(graph):
            events, sources, orders = graph
            for at, (reader, _) in enumerate(sources):
                for writer in (None, (9, 9), *[event[:2] for event in events]):
                    yield (events, (*sources[:at], (reader, writer), *sources[at + 1:]), orders)
                yield (events, (*sources[:at], *sources[at + 1:]), orders)
                yield (events, (*sources[:at], sources[at], *sources[at:]), orders)
                yield (events, (*sources[:at], *sources[at + 1:], sources[at]), orders)
            yield (events, (*sources, ((9, 9), None)), orders)
        self.check(change)

    def test_orders_turned_cut_and_doubled(self):
        def change(graph):
            events, sources, orders = graph
            for at, order in enumerate(orders):
                for other in (*permutations(order), order[1:], order[:-1], (*order, *order[:1]), (*order, (9, 9))):
                    yield (events, sources, (*orders[:at], other, *orders[at + 1:]))
                yield (events, sources, (*orders[:at], *orders[at + 1:]))
                yield (events, sources, (*orders[:at], order, *orders[at:]))
            yield (events, sources, orders[::-1])
            yield (events, sources, (*orders, ()))
        self.check(change)


class Number(int):
    """An integer of another kind."""


class Row(tuple):
    """A tuple of another kind."""


def of_other_kinds(value):
    """Values that are the same but for the kind of one part."""
    if isinstance(value, tuple):
        yield list(value)
        yield Row(value)
        for at, part in enumerate(value):
            for other in of_other_kinds(part):
                yield (*value[:at], other, *value[at + 1:])
    elif isinstance(value, int):
        yield from (float(value), str(value), Number(value), None, [value])
        if value in (0, 1):
            yield bool(value)
    elif value is None:
        yield from (False, 0, (), "", [])
    else:
        yield from (value + " ", value.upper(), value.encode(), [value], None, 0)


class OfOtherKinds(unittest.TestCase):
    def test_every_part_of_some_graphs(self):
        for name in ("counter", "cas", "children", "joined children", "publishing", "plain mutex and a visitor"):
            program = ALL[name]
            for graph in graphs(program):
                for other in of_other_kinds(graph):
                    self.assertIs(is_execution(program, other), False, (name, other))
                    with self.assertRaises(BadGraph):
                        growths(program, other)

    def test_true_in_the_place_of_one(self):
        program = SMALL["counter"]
        events = ((0, 0, "update", 0, 0, 1), (1, 0, "update", 0, 1, 2))
        graph = (events, (((0, 0), None), ((1, 0), (0, 0))), (((0, 0), (1, 0)), ()))
        self.assertIs(is_execution(program, graph), True)
        with_true = ((0, 0, "update", 0, 0, True), events[1])
        self.assertEqual((with_true, *graph[1:]), graph)
        self.assertIs(is_execution(program, (with_true, *graph[1:])), False)

    def test_things_that_are_no_triple_at_all(self):
        program = SMALL["one step"]
        empty = empty_graph(program)
        self.assertEqual(empty, ((), (), ((),)))
        for wrong in (None, 0, True, "", "graph", b"", 1.5, (), [], {}, set(), {0: 1}, object(), (empty,), empty[:2],
                      (*empty, ()), list(empty), [(), (), ((),)], ((), (), ()), ((), (), ((), ())), ((), (), [()]),
                      ((), [], ((),)), ([], (), ((),)), ((), (), ([],)), (None, None, None), ((), (), None),
                      ({}, (), ((),)), ((), {}, ((),)), ("", "", ""), ((), "", ((),)), ("", (), ((),)), ((), (), ("",)),
                      ((()), (), ((),), ()), (((),), (), ((),)), ((), ((),), ((),)), ((), (), (((),),)),
                      ((None,), (), ((),)), ((), (None,), ((),)), ((), (), (None,)), ((), (), ((None,),)),
                      ((0,), (0,), (0,)), ((), (), ((0,),)), is_execution, Number):
            with self.subTest(wrong=wrong):
                self.assertIs(is_execution(program, wrong), False)
                with self.assertRaises(BadGraph):
                    growths(program, wrong)

    def test_orders_that_are_none_beside_events_that_are_good(self):
        program = SMALL["one step"]
        events = ((0, 0, "fence", None, None, None),)
        self.assertIs(is_execution(program, (events, (), (((0, 0),),))), True)
        for order in (None, 0, "", "ab", [(0, 0)], {(0, 0): 0}, (0, 0), ([0, 0],), (None,), ({},), ((0, 0, 0),)):
            self.assertIs(is_execution(program, (events, (), (order,))), False)
        program = SMALL["equal stores"]
        events = ((0, 0, "store", 0, None, 0),)
        self.assertIs(is_execution(program, (events, (), (((0, 0),), ()))), True)
        for order in (None, 0, "", [(0, 0)], {(0, 0): 0}, (0, 0), ([0, 0],), (None, (0, 0)), ((0, 0), {}),
                      ((0, 0, 0),)):
            self.assertIs(is_execution(program, (events, (), (order, ()))), False)

    def test_numbers_that_no_graph_has(self):
        program = SMALL["one step"]
        for pair in ((-1, 0), (0, -1), (28, 0), (0, 8), (10 ** 40, -10 ** 40)):
            graph = (((*pair, "fence", None, None, None),), (), ((pair,),))
            self.assertIs(is_execution(program, graph), False)

    def test_nothing_is_changed(self):
        told = [(0, 0, "fence", None, None, None)]
        self.assertIs(is_execution(SMALL["one step"], (told, (), (((0, 0),),))), False)
        self.assertEqual(told, [(0, 0, "fence", None, None, None)])


class Ends(unittest.TestCase):
    def test_of_all_whole_graphs(self):
        for name, program in ALL.items():
            found = {literal.end_of(program, graph) for graph in literal.whole_graphs(program)}
            self.assertEqual(graph_ends(program), sorted(found, key=literal.sort_key), name)

    def test_values_are_those_of_the_last_writers_or_the_first_ones(self):
        program = make_program(stores(0, 1), (("fetch", 1, 0, 0),), variables=shared(3, 8), threads=((0, 5), (1, 1)))
        told = graph_ends(program)
        self.assertEqual(sorted(values for _, values, _ in told), [(5, 8), (6, 8)])

    def test_holders(self):
        taken = graph_ends(SMALL["taken for ever"])
        self.assertEqual([holders for _, _, holders in taken], [(0,), (1,)])
        self.assertEqual({holders for _, _, holders in graph_ends(SMALL["mutex"])}, {(None,)})
        self.assertEqual({holders for _, _, holders in graph_ends(make_program((), locks=2))}, {(None, None)})

    def test_none_is_less_than_every_integer(self):
        # The thread 0 takes the lock or leaves it; its registers and the values are the same in both ends.
        program = make_program((("load", 1, 0), ("branch", 1, 4), ("lock", 0), ("stop",), ("const", 1, 0)),
                               (("store", 0, 0),), variables=shared(0), locks=1, threads=((0, 0), (1, 1)))
        told = graph_ends(program)
        self.assertEqual([holders for _, _, holders in told], [(None,), (0,)])
        self.assertEqual(len({end[:2] for end in told}), 1)

    def test_each_once(self):
        program = SMALL["equal stores"]
        self.assertEqual((len(graphs(program)), len(graph_ends(program))), (2, 1))

    def test_how_threads_stand(self):
        rows = {row[:2] for rows, _, _ in graph_ends(SMALL["cut"]) for row in rows}
        self.assertEqual(rows, {(0, "cut"), (1, "finished")})
        rows = {row[:2] for rows, _, _ in graph_ends(GRAPHS["held for ever"]) for row in rows}
        self.assertEqual(rows, {(0, "assert"), (1, "waiting"), (0, "waiting"), (1, "finished")})
        rows = {row[:2] for rows, _, _ in graph_ends(GRAPHS["a child without events"]) for row in rows}
        self.assertEqual(rows, {(0, "finished"), (1, "finished"), (4, "assert")})

    def test_a_thread_that_waits_elsewhere_may_find_its_value_here(self):
        program = GRAPHS["an elder writer"]
        self.assertIn("waiting", {row[1] for rows, _, _ in ends(program, "sequential") for row in rows})
        self.assertNotIn("waiting", {row[1] for rows, _, _ in graph_ends(program) for row in rows})


class TooMany(unittest.TestCase):
    def test_the_bound_is_exact(self):
        self.assertEqual(len(literal.all_graphs(GRAPHS_1500)), 1500)
        self.assertEqual(len(literal.all_graphs(GRAPHS_1501)), 1501)
        whole = literal.whole_graphs(GRAPHS_1500)
        self.assertEqual(graphs(GRAPHS_1500), sorted(whole, key=literal.sort_key))
        self.assertEqual(len(graph_ends(GRAPHS_1500)), len({literal.end_of(GRAPHS_1500, graph) for graph in whole}))
        self.assertEqual(graph_things(GRAPHS_1500), [])
        for told in (graphs, graph_ends, graph_things):
            with self.assertRaises(TooLarge):
                told(GRAPHS_1501)

    def test_it_counts_graphs_and_not_ways_to_them(self):
        # 5 to the fourth graphs, and far more than 1500 rows in which the events may be made.
        program = make_program((("load", 1, 0),) * 4, variables=shared(0), threads=((0, 0),) * 4)
        self.assertEqual(len(graphs(program)), 1)
        program = make_program((("load", 1, 0),) * 8, (("load", 1, 0),) * 5, variables=shared(0),
                               threads=((0, 0), (0, 0), (0, 0), (1, 0)))
        for told in (graphs, graph_ends, graph_things):
            with self.assertRaises(TooLarge):
                told(program)

    def test_no_other_function_counts(self):
        large = make_program(stores(0, 8), variables=((0, True),), threads=((0, 1), (0, 2), (0, 3), (0, 4)))
        graph = build(large, *[(0, 0), (1, 1), (2, 2), (3, 3)])
        self.assertEqual(len(growths(large, graph)), 4 + 3 + 2 + 1)
        self.assertIs(is_execution(large, graph), True)
        self.assertIs(is_execution(large, (graph[0], graph[1], ((), ()))), False)
        self.assertIs(comes_before(large, graph, (0, 0), (1, 0)), False)
        self.assertEqual(len(graph_races(large, graph)), 6)
        self.assertEqual(empty_graph(large), ((), (), ((), ())))
        for told in (graphs, graph_ends, graph_things):
            with self.assertRaises(TooLarge):
                told(large)

    def test_large_graphs(self):
        # 28 threads, of which each waits for its children: 224 events in one graph.
        family = (("spawn", 1, 1, 0), ("join", 1), ("spawn", 1, 1, 0), ("join", 1), *fences(4))
        parents = (("spawn", 1, 2, 0), ("join", 1), ("spawn", 1, 2, 0), ("join", 1), *fences(4))
        waiting = [(("const", 2, k), ("join", 2), *family[:4], *fences(3)) for k in range(3)]
        program = make_program(family, parents, fences(8), *waiting, threads=((0, 0), (3, 0), (4, 0), (5, 0)))
        (graph,) = graphs(program)
        self.assertEqual((len(graph[0]), {how for _, how, _ in graph_ends(program)[0][0]}), (224, {"finished"}))
        self.assertIs(is_execution(program, graph), True)
        self.assertEqual(growths(program, graph), [])


class Refused(unittest.TestCase):
    def test_what_is_no_program(self):
        for wrong in (None, ((), 0, ((),), ()), ((), 0, (FENCE,), ((1, 0),))):
            for told in (graphs, graph_ends, graph_things):
                with self.assertRaises(BadProgram):
                    told(wrong)
            for graph in (None, ((), (), ((),))):
                with self.assertRaises(BadProgram):
                    is_execution(wrong, graph)


if __name__ == "__main__":
    unittest.main()
