"""What a program is, and BadProgram for what is none (points 1, 2 and 3)."""

import unittest

from everyweave.errors import BadArgument, BadProgram, EveryweaveError
from everyweave.machine import Machine
from everyweave.programs import check_program

VARIABLES = ((0, False), (5, True), (-999, False), (999, True))

# One right instruction of each word, for four variables as above, two locks and two codes.
RIGHT = (
    ("const", 3, -999),
    ("copy", 0, 3),
    ("add", 0, 1, 2),
    ("sub", 3, 3, 3),
    ("mul", 1, 2, 3),
    ("eq", 0, 0, 0),
    ("less", 2, 1, 0),
    ("jump", 0),
    ("branch", 3, 1),
    ("assert", 2),
    ("stop",),
    ("load", 1, 3),
    ("store", 1, 2),
    ("swap", 0, 2, 1),
    ("fetch", 3, 0, 3),
    ("cas", 0, 2, 1, 3),
    ("await", 2, 0, 1),
    ("fence",),
    ("lock", 1),
    ("unlock", 0),
    ("spawn", 0, 1, 2),
    ("join", 3),
)

# What each number of an instruction may be: r a register, v a value, n a place in a code with one
# instruction, x a variable, s a variable that is not plain, l a lock, k a code.
SHAPES = {
    "const": "rv", "copy": "rr", "add": "rrr", "sub": "rrr", "mul": "rrr", "eq": "rrr", "less": "rrr",
    "jump": "n", "branch": "rn", "assert": "r", "stop": "",
    "load": "rx", "store": "xr", "swap": "rsr", "fetch": "rsr", "cas": "rsrr", "await": "rsr",
    "fence": "", "lock": "l", "unlock": "l", "spawn": "rkr", "join": "r",
}
TAKEN = {
    "r": (0, 1, 2, 3),
    "v": (-999, -1, 0, 1, 999),
    "n": (0, 1),
    "x": (0, 1, 2, 3),
    "s": (0, 2),
    "l": (0, 1),
    "k": (0, 1),
}
REFUSED = {
    "r": (-1, 4),
    "v": (-1000, 1000, 10 ** 30),
    "n": (-1, 2),
    "x": (-1, 4),
    "s": (-1, 1, 3, 4),
    "l": (-1, 2),
    "k": (-1, 2),
}
NO_INTEGERS = (True, False, None, 0.0, 1.0, "0", (0,), [0])


def with_code(code, variables=VARIABLES, locks=2):
    """A program in which the code is one of two that no thread runs."""
    return (variables, locks, (code, ()), ((1, 0),))


class RightPrograms(unittest.TestCase):
    def test_the_smallest(self):
        self.assertIsNone(check_program(((), 0, ((),), ((0, 0),))))

    def test_the_greatest(self):
        code = (("const", 0, 999),) * 16
        codes = (code,) * 6
        threads = ((5, -999), (5, 999), (0, 0), (1, 1))
        self.assertIsNone(check_program((VARIABLES, 2, codes, threads)))

    def test_each_instruction(self):
        self.assertEqual([instruction[0] for instruction in RIGHT], list(SHAPES))
        for instruction in RIGHT:
            with self.subTest(instruction):
                self.assertIsNone(check_program(with_code((instruction,))))

    def test_each_number_that_an_instruction_takes(self):
        for instruction in RIGHT:
            for at, letter in enumerate(SHAPES[instruction[0]], start=1):
                for number in TAKEN[letter]:
                    other = instruction[:at] + (number,) + instruction[at + 1:]
                    with self.subTest(other):
                        self.assertIsNone(check_program(with_code((other,))))

    def test_a_place_behind_the_last_instruction(self):
        code = (("stop",),) * 14
        self.assertIsNone(check_program(with_code(code + (("jump", 16), ("branch", 0, 16)))))

    def test_a_plain_variable_in_load_and_store(self):
        self.assertIsNone(check_program(with_code((("load", 0, 1), ("store", 1, 0)))))


class WrongPrograms(unittest.TestCase):
    def refuse(self, program):
        with self.subTest(program):
            with self.assertRaises(BadProgram):
                check_program(program)

    def test_the_error_is_one_of_the_package(self):
        for kind in (EveryweaveError, ValueError):
            with self.assertRaises(kind):
                check_program(())

    def test_what_is_no_tuple_of_four(self):
        right = ((), 0, ((),), ((0, 0),))
        for program in (None, 0, True, "vars", b"vars", {}, [], (), right[:3], right + ((),), list(right)):
            self.refuse(program)

    def test_a_list_or_another_thing_in_the_place_of_a_tuple(self):
        for thing in ([], {}, None, 0, "", True, set()):
            self.refuse((thing, 0, ((),), ((0, 0),)))
            self.refuse(((), 0, thing, ((0, 0),)))
            self.refuse(((), 0, ((),), thing))
            self.refuse(((thing,), 0, ((),), ((0, 0),)))
            self.refuse(((), 0, (thing,), ((0, 0),)))
            self.refuse(((), 0, ((),), (thing,)))
            self.refuse(with_code((thing,)))
        self.refuse(([(0, False)], 0, ((),), ((0, 0),)))
        self.refuse((([0, False],), 0, ((),), ((0, 0),)))
        self.refuse(((), 0, [()], ((0, 0),)))
        self.refuse(((), 0, ([("stop",)],), ((0, 0),)))
        self.refuse(((), 0, ((),), [(0, 0)]))
        self.refuse(((), 0, ((),), ([0, 0],)))

    def test_too_many_or_too_few(self):
        variable = (0, False)
        self.refuse(((variable,) * 5, 0, ((),), ((0, 0),)))
        self.refuse(((), 0, (), ((0, 0),)))
        self.refuse(((), 0, ((),) * 7, ((0, 0),)))
        self.refuse(((), 0, ((),), ()))
        self.refuse(((), 0, ((),), ((0, 0),) * 5))
        self.refuse(((), 0, ((("stop",),) * 17,), ((0, 0),)))

    def test_variables(self):
        for variable in ((0,), (0, False, False), (), (1000, False), (-1000, False)):
            self.refuse(((variable,), 0, ((),), ((0, 0),)))
        for first in NO_INTEGERS:
            self.refuse((((first, False),), 0, ((),), ((0, 0),)))
        for plain in (0, 1, None, "p", "", (), 0.0):
            self.refuse((((0, plain),), 0, ((),), ((0, 0),)))
        self.refuse((((0, False), (0, 1)), 0, ((),), ((0, 0),)))

    def test_locks(self):
        for locks in (-1, 3) + NO_INTEGERS:
            self.refuse(((), locks, ((),), ((0, 0),)))

    def test_threads(self):
        for thread in ((0,), (0, 0, 0), (), (1, 0), (-1, 0), (0, 1000), (0, -1000)):
            self.refuse(((), 0, ((),), (thread,)))
        for thing in NO_INTEGERS:
            self.refuse(((), 0, ((), ()), ((thing, 0),)))
            self.refuse(((), 0, ((),), ((0, thing),)))
        self.refuse(((), 0, ((),), ((0, 0), (0, 1000))))

    def test_words_that_there_are_not(self):
        words = ("", "Load", "load ", "nop", "read", b"stop", None, 0, True, ("stop",), ["stop"], {})
        for word in words:
            self.refuse(with_code(((word,),)))
            self.refuse(with_code(((word, 0, 0),)))
        self.refuse(with_code(((),)))
        self.refuse(with_code(("stop",)))

    def test_a_number_too_many_or_too_few(self):
        for instruction in RIGHT:
            self.refuse(with_code((instruction + (0,),)))
            if len(instruction) > 1:
                self.refuse(with_code((instruction[:-1],)))

    def test_each_number_that_an_instruction_does_not_take(self):
        for instruction in RIGHT:
            for at, letter in enumerate(SHAPES[instruction[0]], start=1):
                for number in REFUSED[letter] + NO_INTEGERS:
                    self.refuse(with_code((instruction[:at] + (number,) + instruction[at + 1:],)))

    def test_a_place_beyond_the_end_of_its_code(self):
        code = (("stop",),) * 14
        self.refuse(with_code(code + (("jump", 17), ("stop",))))
        self.refuse(with_code(code + (("stop",), ("branch", 0, 17))))

    def test_variables_and_locks_of_a_program_without_any(self):
        for instruction in (("load", 0, 0), ("store", 0, 0), ("fetch", 0, 0, 0)):
            self.refuse(with_code((instruction,), variables=()))
        for instruction in (("lock", 0), ("unlock", 0)):
            self.refuse(with_code((instruction,), locks=0))
        self.refuse(with_code((("lock", 1),), locks=1))

    def test_an_instruction_behind_right_ones(self):
        self.refuse(with_code(RIGHT[:10] + (("load", 4, 0),)))
        self.refuse(((), 0, ((), (("stop", 0),)), ((0, 0),)))

    def test_a_machine_checks_its_program_first(self):
        for memory in ("sequential", "buffers", "graphs", ""):
            with self.assertRaises(BadProgram):
                Machine(((), 0, (), ()), memory)

    def test_a_machine_checks_its_memory(self):
        right = ((), 0, ((),), ((0, 0),))
        for memory in ("graphs", "", "Sequential", "buffer", "sequential "):
            with self.assertRaises(BadArgument):
                Machine(right, memory)


if __name__ == "__main__":
    unittest.main()
