"""Graphs, their form, and how they grow (points 19 and 22)."""

import unittest

from everyweave.errors import BadGraph, BadProgram
from everyweave.graphs import empty_graph, growths
from tests import literal
from tests.helpers import build, grow_one, make_program, new_events, reached_graphs, shared
from tests.samples import FENCE, GRAPHS, SMALL, fences


class Empty(unittest.TestCase):
    def test_orders_for_variables_locks_and_fences(self):
        self.assertEqual(empty_graph(make_program(())), ((), (), ((),)))
        self.assertEqual(empty_graph(make_program((), variables=shared(1, 2, 3))), ((), (), ((), (), (), ())))
        self.assertEqual(empty_graph(make_program((), locks=2)), ((), (), ((), (), ())))
        self.assertEqual(empty_graph(make_program((), variables=((5, True),), locks=1)), ((), (), ((), (), ())))
        full = make_program((), variables=shared(0, 0, 0, 0), locks=2)
        self.assertEqual(empty_graph(full), ((), (), ((),) * 7))

    def test_local_instructions_make_no_event(self):
        program = make_program((("const", 1, 1), ("assert", 2)), (("stop",),), (("jump", 0),), locks=1)
        self.assertEqual(empty_graph(program), ((), (), ((), ())))
        self.assertEqual(growths(program, empty_graph(program)), [])


class Form(unittest.TestCase):
    def test_a_whole_example(self):
        program = make_program(
            (("store", 0, 0), ("fetch", 1, 0, 0), ("lock", 0), ("fence",), ("unlock", 0)),
            (("load", 1, 0), ("lock", 0), ("cas", 1, 0, 3, 0), ("await", 2, 1, 3), ("fence",)),
            variables=shared(7, 0), locks=1, threads=((0, 2), (1, 5)),
        )
        graph = build(program, (1, None), (0, 0), (0, (0, 0)), 0, 0, 0, 1, (1, (0, 1)), (1, None), 1)
        self.assertEqual(graph, (
            (
                (0, 0, "store", 0, None, 2), (0, 1, "update", 0, 2, 4), (0, 2, "lock", 0, None, None),
                (0, 3, "fence", None, None, None), (0, 4, "unlock", 0, None, None),
                (1, 0, "load", 0, 7, None), (1, 1, "lock", 0, None, None), (1, 2, "miss", 0, 4, None),
                (1, 3, "await", 1, 0, None), (1, 4, "fence", None, None, None),
            ),
            (((0, 1), (0, 0)), ((1, 0), None), ((1, 2), (0, 1)), ((1, 3), None)),
            (((0, 0), (0, 1)), (), ((0, 2), (0, 4), (1, 1)), ((0, 3), (1, 4))),
        ))

    def test_spawns_and_joins_as_in_the_sequential_memory(self):
        program = make_program((("spawn", 1, 1, 0), ("join", 1)), (("fence",),), threads=((0, 6),))
        graph = build(program, 0, 4, 0)
        self.assertEqual(graph, (
            ((0, 0, "spawn", 4, None, 6), (0, 1, "join", 4, None, None), (4, 0, "fence", None, None, None)),
            (), (((4, 0),),),
        ))

    def test_the_kinds_are_those_of_the_sequential_memory(self):
        # A thread that loads what it has stored does so by a load, and its store is a store.
        program = make_program((("store", 0, 0), ("load", 1, 0), ("await", 2, 0, 0)), variables=shared(0),
                               threads=((0, 3),))
        self.assertEqual([event[2] for event in build(program, 0, 0, 0)[0]], ["store", "load", "await"])
        kinds = {event[2] for one in (*SMALL.values(), *GRAPHS.values()) for graph in literal.all_graphs(one)
                 for event in graph[0]}
        self.assertEqual(kinds, {"load", "store", "update", "miss", "await", "fence", "lock", "unlock", "spawn",
                                 "join"})

    def test_sources_that_are_none_and_others(self):
        program = make_program((("load", 1, 0), ("swap", 1, 0, 0), ("cas", 2, 0, 3, 0), ("await", 2, 0, 0)),
                               variables=shared(8), threads=((0, 1),))
        graph = build(program, 0, 0, 0, 0)
        self.assertEqual(graph[1], (((0, 0), None), ((0, 1), None), ((0, 2), (0, 1)), ((0, 3), (0, 1))))
        self.assertEqual([event[4] for event in graph[0]], [8, 8, 1, 1])

    def test_every_graph_has_the_form(self):
        for name, program in GRAPHS.items():
            for graph in reached_graphs(program):
                with self.subTest(name):
                    self.check_form(program, graph)

    def check_form(self, program, graph):
        events, sources, orders = graph
        known = {event[:2]: event for event in events}
        self.assertEqual(list(events), sorted(events))
        self.assertEqual([reader for reader, _ in sources],
                         [event[:2] for event in events if event[2] in ("load", "update", "miss", "await")])
        for reader, writer in sources:
            value = program[0][known[reader][3]][0] if writer is None else known[writer][5]
            self.assertEqual(known[reader][4], value)
            if writer is not None:
                self.assertIn(known[writer][2], ("store", "update"))
                self.assertEqual(known[writer][3], known[reader][3])
        groups = [(("store", "update"), x) for x in range(len(program[0]))]
        groups += [(("lock", "unlock"), lock) for lock in range(program[1])] + [(("fence",), None)]
        self.assertEqual(len(orders), len(groups))
        for order, (kinds, named) in zip(orders, groups):
            of_group = [event[:2] for event in events if event[2] in kinds and event[3] == named]
            self.assertEqual(sorted(order), of_group)


class Growing(unittest.TestCase):
    def test_as_the_words_of_the_document_tell(self):
        for name, program in (*SMALL.items(), *GRAPHS.items()):
            for graph, more in literal.all_graphs(program).items():
                with self.subTest(name):
                    self.assertEqual(growths(program, graph), sorted(more, key=literal.sort_key))

    def test_ascending_with_none_ahead_of_every_pair(self):
        program = make_program((("store", 0, 0),), (("load", 1, 0),), variables=shared(0), threads=((0, 0), (1, 0)))
        graph = build(program, 0)
        self.assertEqual([other[1] for other in growths(program, graph)], [(((1, 0), None),), (((1, 0), (0, 0)),)])

    def test_new_lists_each_time(self):
        program = SMALL["two fences"]
        growths(program, empty_graph(program)).clear()
        self.assertEqual(len(growths(program, empty_graph(program))), 2)

    def test_loads(self):
        program = make_program((("store", 0, 0), ("store", 0, 1)), (("load", 1, 0),), variables=shared(4),
                               threads=((0, 1), (1, 0)))
        graph = build(program, 0, 0)
        self.assertEqual(new_events(program, graph, 1), [
            (("load", 0, 0, None), (0, 1)), (("load", 0, 1, None), (0, 0)), (("load", 0, 4, None), None),
        ])

    def test_what_a_thread_has_read_or_stored_it_does_not_go_behind(self):
        program = make_program((("store", 0, 0), ("store", 0, 1)), (("load", 1, 0), ("load", 1, 0)),
                               variables=shared(4), threads=((0, 1), (1, 0)))
        graph = build(program, 0, 0, (1, (0, 0)))
        self.assertEqual([writer for _, writer in new_events(program, graph, 1)], [(0, 1), (0, 0)])
        self.assertEqual([writer for _, writer in new_events(program, grow_one(program, build(program, 0), 0), 1)],
                         [(0, 1), (0, 0), None])
        own = make_program((("store", 0, 0), ("load", 1, 0)), variables=shared(0), threads=((0, 1),))
        self.assertEqual(new_events(own, build(own, 0), 0), [(("load", 0, 1, None), (0, 0))])

    def test_stores_at_every_place(self):
        program = make_program((("store", 0, 0), ("store", 0, 0), ("store", 0, 0)), (("store", 0, 0),),
                               variables=shared(0), threads=((0, 1), (1, 2)))
        found = growths(program, build(program, 0, 0, 0))
        self.assertEqual([other[2][0] for other in found], [
            ((0, 0), (0, 1), (0, 2), (1, 0)), ((0, 0), (0, 1), (1, 0), (0, 2)),
            ((0, 0), (1, 0), (0, 1), (0, 2)), ((1, 0), (0, 0), (0, 1), (0, 2)),
        ])

    def test_a_store_stands_behind_all_writers_that_come_before_it(self):
        program = make_program((("store", 0, 0),), (("load", 1, 0), ("store", 0, 0)), variables=shared(0),
                               threads=((0, 1), (1, 2)))
        found = growths(program, build(program, 0, (1, (0, 0))))
        self.assertEqual([other[2][0] for other in found], [((0, 0), (1, 1))])
        found = growths(program, build(program, 0, (1, None)))
        self.assertEqual([other[2][0] for other in found], [((0, 0), (1, 1)), ((1, 1), (0, 0))])

    def test_swaps_stand_directly_behind_their_writers(self):
        program = make_program((("store", 0, 0), ("store", 0, 0)), (("swap", 1, 0, 0),), variables=shared(5),
                               threads=((0, 1), (1, 7)))
        graph = build(program, 0, 0)
        found = {other[1]: other[2][0] for other in growths(program, graph)}
        self.assertEqual(found, {
            (((1, 0), None),): ((1, 0), (0, 0), (0, 1)),
            (((1, 0), (0, 0)),): ((0, 0), (1, 0), (0, 1)),
            (((1, 0), (0, 1)),): ((0, 0), (0, 1), (1, 0)),
        })
        self.assertEqual([told for told, _ in new_events(program, graph, 1)],
                         [("update", 0, 1, 7), ("update", 0, 1, 7), ("update", 0, 5, 7)])

    def test_nothing_comes_between_an_update_and_its_writer(self):
        program = make_program((("store", 0, 0),), (("swap", 1, 0, 0),), (("swap", 1, 0, 0),), (("store", 0, 0),),
                               variables=shared(0), threads=((0, 1), (1, 2), (2, 3), (3, 4)))
        graph = build(program, 0, (1, (0, 0)))
        self.assertEqual([writer for _, writer in new_events(program, graph, 2)], [None, (1, 0)])
        places = [other[2][0].index((3, 0)) for other in growths(program, graph) if len(other[1]) == 1]
        self.assertEqual(sorted(places), [0, 2])
        # Behind an update from the first value nothing stands first any more.
        graph = build(program, (1, None), 0)
        self.assertEqual(graph[2][0], ((1, 0), (0, 0)))
        self.assertEqual([writer for _, writer in new_events(program, graph, 2)], [(0, 0), (1, 0)])

    def test_fetches(self):
        program = make_program((("fetch", 1, 0, 0),), (("store", 0, 0),), variables=shared(10),
                               threads=((0, 5), (1, -3)))
        self.assertEqual(new_events(program, build(program, 1), 0),
                         [(("update", 0, -3, 2), (1, 0)), (("update", 0, 10, 15), None)])

    def test_a_fetch_whose_sum_is_no_value(self):
        program = make_program((("fetch", 1, 0, 0), ("store", 0, 0)), (("store", 0, 0),), variables=shared(990),
                               threads=((0, 10), (1, 3)))
        graph = build(program, 1)
        self.assertEqual(new_events(program, graph, 0),
                         [(("miss", 0, 990, None), None), (("update", 0, 3, 13), (1, 0))])
        missed = grow_one(program, graph, (0, None))
        self.assertEqual(missed[2], (((1, 0),), ()))
        self.assertEqual(growths(program, missed), [])
        self.assertEqual(len(new_events(program, grow_one(program, graph, (0, (1, 0))), 0)), 1)

    def test_cas_as_an_update_and_as_a_miss(self):
        program = make_program((("cas", 1, 0, 0, 2), ("branch", 1, 3), ("fence",)), (("store", 0, 0),),
                               variables=shared(3), threads=((0, 3), (1, 8)))
        graph = build(program, 1)
        self.assertEqual(new_events(program, graph, 0), [(("miss", 0, 8, None), (1, 0)), (("update", 0, 3, 0), None)])
        missed = grow_one(program, graph, (0, (1, 0)))
        self.assertEqual(missed[2][0], ((1, 0),))
        self.assertEqual(new_events(program, missed, 0), [(("fence", None, None, None),)])
        updated = grow_one(program, graph, (0, None))
        self.assertEqual(updated[2][0], ((0, 0), (1, 0)))
        self.assertEqual(growths(program, updated), [])

    def test_a_miss_has_no_place_and_may_read_what_an_update_has_read(self):
        program = make_program((("cas", 1, 0, 0, 2),), (("swap", 1, 0, 0),), variables=shared(3),
                               threads=((0, 9), (1, 4)))
        self.assertEqual(new_events(program, build(program, 1), 0),
                         [(("miss", 0, 3, None), None), (("miss", 0, 4, None), (1, 0))])

    def test_an_await_finds_its_value_in_an_elder_writer(self):
        program = make_program((("store", 0, 0), ("store", 0, 1)), (("await", 1, 0, 0), ("load", 2, 0)),
                               variables=shared(4), threads=((0, 1), (1, 1)))
        self.assertEqual(new_events(program, empty_graph(program), 1), [])
        graph = build(program, 0, 0)
        self.assertEqual(new_events(program, graph, 1), [(("await", 0, 1, None), (0, 0))])
        graph = grow_one(program, graph, 1)
        self.assertEqual([writer for _, writer in new_events(program, graph, 1)], [(0, 1), (0, 0)])
        first = make_program((("store", 0, 0),), (("await", 1, 0, 1),), variables=shared(0), threads=((0, 1), (1, 4)))
        self.assertEqual(new_events(first, build(first, 0), 1), [(("await", 0, 0, None), None)])

    def test_an_await_is_no_growth_where_the_value_is_overwritten_for_it(self):
        program = make_program((("store", 0, 0), ("store", 0, 1)), (("load", 1, 0), ("await", 1, 0, 0)),
                               variables=shared(4), threads=((0, 1), (1, 1)))
        self.assertEqual(growths(program, build(program, 0, 0, (1, (0, 1)))), [])
        self.assertEqual(len(growths(program, build(program, 0, 0, (1, (0, 0))))), 1)


class OrdersThatEnd(unittest.TestCase):
    def test_fences_stand_one_behind_the_other(self):
        program = make_program(FENCE, fences(2))
        self.assertEqual([other[2] for other in growths(program, build(program, 1))],
                         [(((1, 0), (0, 0)),), (((1, 0), (1, 1)),)])

    def test_locks_that_are_taken_and_free(self):
        code = ("lock", 0), ("unlock", 0)
        program = make_program(code, code, (("lock", 1),), locks=2)
        graph = build(program, 0)
        self.assertEqual(graph[2], (((0, 0),), (), ()))
        self.assertEqual(new_events(program, graph, 1), [])
        self.assertEqual(new_events(program, graph, 2), [(("lock", 1, None, None),)])
        graph = grow_one(program, graph, 0)
        self.assertEqual(new_events(program, graph, 1), [(("lock", 0, None, None),)])
        self.assertEqual(build(program, 0, 0, 1, 1)[2], (((0, 0), (0, 1), (1, 0), (1, 1)), (), ()))

    def test_a_lock_that_its_own_thread_holds(self):
        program = make_program((("lock", 0), ("lock", 0)), locks=1)
        self.assertEqual(growths(program, build(program, 0)), [])

    def test_a_lock_of_a_thread_that_has_ended_stays_taken(self):
        for last in ((), (("assert", 1),)):
            program = make_program((("lock", 0), *last), (("lock", 0),), locks=1)
            self.assertEqual(growths(program, build(program, 0)), [])

    def test_an_unlock_of_a_lock_that_is_not_held(self):
        program = make_program((("fence",), ("unlock", 0), ("fence",)), locks=1)
        self.assertEqual(growths(program, build(program, 0)), [])


class Threads(unittest.TestCase):
    def test_joins_of_threads_that_have_not_begun_have_not_ended_and_have_ended(self):
        # The child of the thread 2 is the thread 8, and nobody spawns the thread 4.
        program = make_program((("join", 0),), (("spawn", 1, 2, 0),), FENCE, threads=((0, 8), (0, 4), (1, 0)))
        graph = empty_graph(program)
        for thread in (2, 8):
            self.assertEqual(new_events(program, graph, 0), [])
            graph = grow_one(program, graph, thread)
        self.assertEqual(new_events(program, graph, 0), [(("join", 8, None, None),)])
        self.assertEqual(new_events(program, graph, 1), [])

    def test_joins_of_threads_that_fail_that_are_cut_and_of_the_own_one(self):
        failing = make_program((("const", 2, 1), ("join", 2)), (("fence",), ("assert", 2)))
        self.assertEqual(new_events(failing, build(failing, 1), 0), [(("join", 1, None, None),)])
        cut = make_program((("const", 2, 1), ("join", 2)), fences(9))
        self.assertEqual(growths(cut, build(cut, *[1] * 8)), [])
        for number in (0, -1, 999, 27):
            waiting = make_program((("join", 0),), threads=((0, number),))
            self.assertEqual(growths(waiting, empty_graph(waiting)), [])

    def test_a_join_of_a_thread_that_ends_without_an_event(self):
        program = make_program((("const", 2, 1), ("join", 2)), ())
        self.assertEqual(new_events(program, empty_graph(program), 0), [(("join", 1, None, None),)])

    def test_spawned_threads_begin_with_their_spawn(self):
        program = make_program((("spawn", 1, 1, 0), ("spawn", 2, 1, 1)), (("store", 0, 0),), variables=shared(0),
                               threads=((0, 7), (0, 8)))
        self.assertEqual(new_events(program, empty_graph(program), 4), [])
        graph = build(program, 0, 0, 1)
        self.assertEqual(graph[0], ((0, 0, "spawn", 4, None, 7), (0, 1, "spawn", 5, None, 4),
                                    (1, 0, "spawn", 6, None, 8)))
        for child, argument in ((4, 7), (5, 4), (6, 8)):
            self.assertEqual(new_events(program, graph, child), [(("store", 0, None, argument),)])

    def test_a_third_child_and_the_children_of_children(self):
        program = make_program((("spawn", 1, 0, 0), ("jump", 0)))
        graph = build(program, 0, 0, 4, 4)
        self.assertEqual([event[3] for event in graph[0]], [4, 5, 12, 13])
        # The threads 0 and 4 have failed behind two children each, and the threads 12 and 13 when they began.
        for thread in (0, 4, 12, 13):
            self.assertEqual(new_events(program, graph, thread), [])
        self.assertEqual(new_events(program, graph, 5), [(("spawn", 14, None, 0),)])

    def test_threads_that_are_cut(self):
        program = make_program((("load", 1, 0), ("jump", 0)), fences(8), variables=shared(0))
        graph = build(program, *[0] * 8)
        self.assertEqual(new_events(program, graph, 0), [])
        self.assertEqual(len(new_events(program, graph, 1)), 1)

    def test_threads_that_have_failed(self):
        program = make_program((("load", 1, 0), ("assert", 1), ("fence",)), (("store", 0, 0),), variables=shared(0),
                               threads=((0, 0), (1, 1)))
        self.assertEqual(new_events(program, build(program, 1, (0, None)), 0), [])
        self.assertEqual(new_events(program, build(program, 1, (0, (1, 0))), 0), [(("fence", None, None, None),)])


class Refused(unittest.TestCase):
    def test_what_is_no_program(self):
        for wrong in (None, (), ((), 0, ((),), ()), ((), 0, ((("fences",),),), ((0, 0),))):
            with self.assertRaises(BadProgram):
                empty_graph(wrong)
            for graph in (((), (), ((),)), None):
                with self.assertRaises(BadProgram):
                    growths(wrong, graph)

    def test_what_is_no_graph(self):
        program = SMALL["one step"]
        for wrong in (None, (), ((), ()), ((), (), ()), [(), (), ((),)], ((), (), ((), ())),
                      (((0, 0, "lock", 0, None, None),), (), ((),)), (((0, 0, "fence", None, None, None),), (), ((),))):
            with self.assertRaises(BadGraph):
                growths(program, wrong)


if __name__ == "__main__":
    unittest.main()
