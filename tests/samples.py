"""Programs for the tests: small ones of many kinds, and ones that stand just at the bounds."""

from everyweave.runs import Run
from tests.helpers import MEMORIES, make_program, played_machines, shared

STORE_LOAD = ("store", 0, 0), ("load", 1, 1)
LOAD_STORE = ("store", 1, 0), ("load", 1, 0)
FENCE = (("fence",),)

# Few enough schedules, in both memories, for every one to be tried.
SMALL = {
    "nothing to do": make_program(()),
    "one step": make_program(FENCE),
    "two fences": make_program(FENCE, FENCE),
    "store buffering": make_program(STORE_LOAD, LOAD_STORE, variables=shared(0, 0), threads=((0, 1), (1, 2))),
    "stores of one variable": make_program((("store", 0, 0),), variables=shared(0), threads=((0, 1), (0, 2))),
    "equal stores": make_program((("store", 0, 0),), variables=shared(0), threads=((0, 0), (0, 0))),
    "loads of one variable": make_program((("load", 1, 0),), (("store", 0, 0),), variables=shared(0),
                                          threads=((0, 0), (0, 0), (1, 3))),
    "different variables": make_program((("store", 0, 0),), (("store", 1, 0),), variables=shared(0, 0)),
    "counter": make_program((("fetch", 1, 0, 0),), variables=shared(0), threads=((0, 1), (0, 1), (0, 2))),
    "lost counter": make_program((("load", 1, 0), ("add", 1, 1, 0), ("store", 0, 1)), variables=shared(0),
                                 threads=((0, 1), (0, 1))),
    "cas": make_program((("cas", 1, 0, 2, 0), ("assert", 1)), variables=shared(0), threads=((0, 1), (0, 2))),
    "message": make_program((("store", 0, 0), ("store", 1, 0)), (("await", 1, 1, 0), ("load", 2, 0), ("assert", 2)),
                            variables=((0, True), (0, False)), threads=((0, 1), (1, 1))),
    "plain race": make_program((("store", 0, 0),), (("load", 1, 0),), variables=((0, True),), threads=((0, 1), (1, 0))),
    "mutex": make_program((("lock", 0), ("load", 1, 0), ("store", 0, 0), ("unlock", 0)), variables=((0, True),),
                          locks=1, threads=((0, 1), (0, 2))),
    "deadlock": make_program((("lock", 0), ("lock", 1), ("unlock", 1), ("unlock", 0)), (("lock", 1), ("lock", 0)),
                             locks=2),
    "taken for ever": make_program((("lock", 0), ("assert", 1)), (("lock", 0),), locks=1),
    "missed value": make_program((("await", 1, 0, 2), ("store", 0, 1)), (("store", 0, 0),), variables=shared(0),
                                 threads=((0, 1), (1, 2))),
    "children": make_program((("spawn", 1, 1, 0), ("spawn", 2, 1, 0), ("join", 1)), (("store", 0, 0),),
                             variables=shared(0), threads=((0, 2),)),
    "foreign join": make_program((("spawn", 1, 2, 0), ("store", 0, 0)), (("join", 0), ("load", 1, 0)), (),
                                 variables=shared(0), threads=((0, 4), (1, 4))),
    "join of what is never": make_program((("join", 0),), FENCE, threads=((0, 9), (1, 0))),
    "own": make_program((("store", 0, 0), ("store", 0, 1), ("load", 2, 0), ("await", 3, 0, 1)), (("load", 1, 0),),
                        variables=shared(0), threads=((0, 5), (1, 0))),
    "needs an empty buffer": make_program((("store", 0, 0), ("swap", 1, 1, 0)), (("load", 1, 0), ("store", 1, 0)),
                                          variables=shared(0, 0), threads=((0, 3), (1, 4))),
    "failures": make_program((("fetch", 1, 0, 0), ("unlock", 0)), (("load", 1, 0), ("mul", 1, 1, 1)),
                             variables=shared(990), locks=1, threads=((0, 9), (0, 9), (1, 0))),
    "too many children": make_program((("spawn", 1, 1, 0), ("jump", 0)), (), threads=((0, 0),)),
    "cut": make_program((("load", 1, 0), ("jump", 0)), (("store", 0, 0),), variables=shared(0),
                        threads=((0, 0), (1, 1))),
    "loop": make_program((("load", 1, 0), ("branch", 1, 2), ("stop",)), (("store", 0, 0),), (("jump", 0),),
                         variables=shared(0), threads=((0, 0), (1, 1), (2, 0))),
}


def some_runs():
    """Runs of the small programs, whole or not; of long lists of schedules only some."""
    for program in SMALL.values():
        for memory in MEMORIES:
            schedules = sorted(played_machines(program, memory))
            for schedule in schedules[::1 + len(schedules) // 40]:
                yield Run(program, memory, list(schedule))


def stores(variable, many):
    return (("store", variable, 0),) * many


def fences(many):
    return FENCE * many


# One thread sets the variable by a swap, which both memories make at once, and another one awaits it.
SET_FIRST, SET_SECOND = ("swap", 1, 0, 0), ("swap", 1, 1, 0)
AWAIT_FIRST, AWAIT_SECOND = ("await", 1, 0, 0), ("await", 1, 1, 0)

TRIED_3000 = make_program(
    (*fences(2), SET_FIRST, *fences(3), SET_SECOND, *fences(1)),
    (*fences(3), AWAIT_FIRST, AWAIT_SECOND),
    variables=shared(0, 0), threads=((0, 1), (1, 1)),
)
TRIED_3001 = make_program(
    (*fences(2), ("join", 0)),
    (*fences(2), SET_FIRST, *fences(2)),
    (*fences(1), AWAIT_FIRST),
    variables=shared(0), threads=((0, 2), (1, 1), (2, 1)),
)

# The last step of each thread but one counts it, and that one may await the count: one state more.
COUNTED = (("fetch", 2, 1, 0), ("const", 2, 0))


def many_states(*last):
    return make_program(
        (*fences(3), *COUNTED),
        (*fences(2), AWAIT_FIRST, *fences(4), *COUNTED),
        (("const", 3, 3), *fences(7), *last),
        (SET_FIRST, *fences(6), *COUNTED),
        variables=shared(0, 0), threads=((0, 1), (1, 1), (2, 1), (3, 1)),
    )


STATES_3000 = many_states()
STATES_3001 = many_states(("await", 3, 1, 3))

# 20 orders of the stores of one variable, and 15 of the other one.
CLASSES_300 = make_program(stores(0, 3), stores(1, 4), stores(1, 2), variables=shared(0, 0),
                           threads=((0, 1), (0, 2), (1, 1), (2, 2)))
# 7 ways for a store among 6 loads, and 43 ways for the two threads that are told with each memory.
SEVEN = (stores(1, 1), (("load", 1, 1),) * 6)
FORTY_THREE = {
    "sequential": ((("store", 0, 0), ("cas", 1, 0, 2, 0), ("cas", 1, 0, 2, 0), ("store", 0, 0)),
                   (("load", 1, 0), ("store", 0, 0), ("store", 0, 0), ("load", 1, 0))),
    "buffers": ((("store", 0, 0), ("load", 1, 0), ("cas", 1, 0, 2, 0), ("store", 0, 0)),
                (("store", 0, 0), ("store", 0, 0), ("cas", 1, 0, 2, 0))),
}
CLASSES_301 = {
    memory: make_program(*codes, *SEVEN, variables=shared(0, 0), threads=((0, 1), (1, 1), (2, 1), (3, 1)))
    for memory, codes in FORTY_THREE.items()
}


# Programs that show what graphs have and the other memories have not: few enough graphs for all to be grown.
PLAIN, FLAG = (0, True), (0, False)
WAIT_FOR_IT = ("await", 2, 1, 0)
GRAPHS = {
    "publishing": make_program((("store", 0, 0), ("store", 1, 0)), (("load", 1, 1), ("load", 2, 0)),
                               variables=(PLAIN, FLAG), threads=((0, 1), (1, 0))),
    "publishing and waiting": make_program((("store", 0, 0), ("store", 1, 0)), (WAIT_FOR_IT, ("load", 2, 0)),
                                           variables=(PLAIN, FLAG), threads=((0, 1), (1, 1), (1, 1))),
    "publishing plainly": make_program((("store", 0, 0), ("store", 1, 0)), (("load", 1, 1), ("load", 2, 0)),
                                       variables=(PLAIN, PLAIN), threads=((0, 1), (1, 0))),
    "plain mutex and a visitor": make_program((("lock", 0), ("store", 0, 0), ("unlock", 0)), (("load", 1, 0),),
                                              variables=(PLAIN,), locks=1, threads=((0, 1), (0, 2), (1, 0))),
    "load buffering": make_program((("load", 1, 0), ("store", 1, 0)), (("load", 1, 1), ("store", 0, 0)),
                                   variables=(PLAIN, PLAIN), threads=((0, 1), (1, 2))),
    "store buffering with fences": make_program((("store", 0, 0), ("fence",), ("load", 1, 1)),
                                                (("store", 1, 0), ("fence",), ("load", 1, 0)),
                                                variables=shared(0, 0), threads=((0, 1), (1, 1))),
    "independent readers": make_program((("store", 0, 0),), (("store", 1, 0),), (("load", 1, 0), ("load", 2, 1)),
                                        (("load", 1, 1), ("load", 2, 0)), variables=shared(0, 0),
                                        threads=((0, 1), (1, 1), (2, 0), (3, 0))),
    "two writers": make_program((("store", 0, 0), ("store", 1, 0)), (("store", 1, 0), ("store", 0, 0)),
                                variables=shared(0, 0), threads=((0, 1), (1, 2))),
    "updates": make_program((("fetch", 1, 0, 0), ("fetch", 1, 0, 0)), (("swap", 1, 0, 0),), (("store", 0, 0),),
                            variables=shared(0), threads=((0, 1), (1, 5), (2, 9))),
    "an elder writer": make_program((("store", 0, 0), ("store", 0, 1)), (("await", 1, 0, 0), ("load", 2, 0)),
                                    variables=shared(0), threads=((0, 1), (1, 1))),
    "cas by elder writers": make_program((("store", 0, 0), ("store", 0, 1)), (("cas", 1, 0, 0, 2), ("load", 2, 0)),
                                         variables=shared(3), threads=((0, 1), (1, 1))),
    "fetch beyond the values": make_program((("fetch", 1, 0, 0), ("fetch", 1, 0, 0)), (("store", 0, 0),),
                                            variables=shared(500), threads=((0, 400), (1, 999))),
    "joined children": make_program((("store", 0, 0), ("spawn", 1, 1, 0), ("join", 1), ("load", 2, 0)),
                                    (("store", 0, 1),), variables=(PLAIN,), threads=((0, 3),)),
    "a child without events": make_program((("store", 0, 0), ("spawn", 3, 1, 0)),
                                           (("assert", 1),),
                                           (("const", 2, 4), ("join", 2), ("load", 1, 0)),
                                           variables=(PLAIN,), threads=((0, 3), (2, 0))),
    "held for ever": make_program((("lock", 0), ("store", 0, 0), ("assert", 1)), (("lock", 0), ("load", 1, 0)),
                                  variables=(PLAIN,), locks=1, threads=((0, 1), (1, 0))),
}

LOAD_FIRST, STORE_FIRST = ("load", 1, 0), ("store", 0, 0)
LOAD_SECOND, STORE_SECOND = ("load", 1, 1), ("store", 1, 0)
# Two threads with each variable: 12 times 125 graphs, and 19 times 79.
GRAPHS_1500 = make_program((LOAD_FIRST,), (STORE_FIRST, LOAD_FIRST, STORE_FIRST), (LOAD_SECOND,) * 3,
                           (STORE_SECOND,) * 4, variables=shared(0, 0), threads=((0, 0), (1, 1), (2, 0), (3, 1)))
GRAPHS_1501 = make_program((LOAD_FIRST,), (STORE_FIRST, STORE_FIRST, STORE_FIRST, LOAD_FIRST), (LOAD_SECOND,) * 3,
                           (STORE_SECOND, LOAD_SECOND, STORE_SECOND, STORE_SECOND), variables=shared(0, 0),
                           threads=((0, 0), (1, 1), (2, 0), (3, 1)))
