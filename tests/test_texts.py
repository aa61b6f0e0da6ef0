"""The textual form of programs (point 25)."""

import unittest

from everyweave.errors import BadProgram, BadText
from everyweave.programs import LOCAL_SHAPES, VISIBLE_SHAPES
from everyweave.texts import format_program, parse_program
from tests.helpers import make_program, shared
from tests.samples import GRAPHS, GRAPHS_1500, SMALL, STATES_3001

EXAMPLE = "vars 0 5p; locks 1; code load 1 0, store 1 0; code; threads 0:7 1:0"
EVERY_WORD = (
    ("const", 3, -999), ("copy", 0, 1), ("add", 1, 2, 3), ("sub", 0, 0, 0), ("mul", 3, 2, 1), ("eq", 1, 1, 1),
    ("less", 2, 0, 3), ("jump", 16), ("branch", 0, 0), ("assert", 2), ("stop",), ("load", 0, 1), ("store", 1, 3),
    ("swap", 0, 0, 1), ("fetch", 1, 0, 2), ("cas", 3, 0, 1, 2),
), (("await", 0, 0, 0), ("fence",), ("lock", 1), ("unlock", 0), ("spawn", 1, 1, 2), ("join", 3))
PROGRAMS = {
    **SMALL, **GRAPHS, "1500": GRAPHS_1500, "3001": STATES_3001,
    "every word": make_program(*EVERY_WORD, variables=((-1, False), (999, True)), locks=2, threads=((0, -5), (1, 999))),
    "the least": make_program(()),
    "the most": make_program(*[(("stop",),) * 16] * 6, variables=((-999, True),) * 4, locks=2,
                             threads=((5, -999), (5, 999), (0, 0), (1, -1))),
}


def kinds_of(value):
    if isinstance(value, tuple):
        return tuple(kinds_of(part) for part in value)
    return type(value)


class Written(unittest.TestCase):
    def test_the_example(self):
        program = (((0, False), (5, True)), 1, ((("load", 1, 0), ("store", 1, 0)), ()), ((0, 7), (1, 0)))
        self.assertEqual(format_program(program), EXAMPLE)

    def test_codes_without_instructions_and_programs_without_variables(self):
        self.assertEqual(format_program(make_program(())), "vars; locks 0; code; threads 0:0")
        self.assertEqual(format_program(make_program((), (("fence",),), (), locks=2)),
                         "vars; locks 2; code; code fence; code; threads 0:0 1:0 2:0")

    def test_plain_variables_and_negative_numbers(self):
        program = make_program((("const", 1, -7),), variables=((-3, True), (-3, False), (0, True)),
                               threads=((0, -999),))
        self.assertEqual(format_program(program), "vars -3p -3 0p; locks 0; code const 1 -7; threads 0:-999")

    def test_every_word(self):
        self.assertEqual({instruction[0] for code in EVERY_WORD for instruction in code},
                         {*LOCAL_SHAPES, *VISIBLE_SHAPES})
        self.assertEqual(format_program(PROGRAMS["every word"]), (
            "vars -1 999p; locks 2; code const 3 -999, copy 0 1, add 1 2 3, sub 0 0 0, mul 3 2 1, eq 1 1 1, less 2 0 3,"
            " jump 16, branch 0 0, assert 2, stop, load 0 1, store 1 3, swap 0 0 1, fetch 1 0 2, cas 3 0 1 2; "
            "code await 0 0 0, fence, lock 1, unlock 0, spawn 1 1 2, join 3; threads 0:-5 1:999"
        ))

    def test_what_is_no_program(self):
        for wrong in (None, (), EXAMPLE, [*PROGRAMS["the least"]], ((), 0, ((),), ()), ((), True, ((),), ((0, 0),)),
                      (((0, 0),), 0, ((),), ((0, 0),)), ((), 0, ((("load", 0, 0),),), ((0, 0),))):
            with self.assertRaises(BadProgram):
                format_program(wrong)


class ReadBack(unittest.TestCase):
    def test_the_same_program_with_the_same_kinds_of_values(self):
        for name, program in PROGRAMS.items():
            with self.subTest(name):
                text = format_program(program)
                self.assertIsInstance(text, str)
                self.assertEqual(parse_program(text), program)
                self.assertEqual(kinds_of(parse_program(text)), kinds_of(program))

    def test_the_example(self):
        self.assertEqual(parse_program(EXAMPLE),
                         (((0, False), (5, True)), 1, ((("load", 1, 0), ("store", 1, 0)), ()), ((0, 7), (1, 0))))

    def test_every_number_that_a_value_may_be(self):
        for number in (-999, -100, -10, -1, 0, 1, 9, 10, 100, 999):
            text = f"vars {number} {number}p; locks 0; code const 0 {number}; threads 0:{number}"
            self.assertEqual(parse_program(text), (((number, False), (number, True)), 0, ((("const", 0, number),),),
                                                   ((0, number),)))


class NoTexts(unittest.TestCase):
    def refuse(self, *texts):
        for text in texts:
            with self.subTest(text=text):
                with self.assertRaises(BadText):
                    parse_program(text)

    def test_every_sign_left_out_doubled_or_exchanged(self):
        # A text with one sign changed is the form of another program, or of none.
        texts = [EXAMPLE, "vars -3p; locks 0; code const 1 -7, fence; threads 0:-999 0:5",
                 "vars; locks 2; code; threads 0:0"]
        for text in texts:
            program = parse_program(text)
            for at in range(len(text)):
                self.check_other(text[:at] + text[at + 1:], program)
                for sign in (text[at], " ", ",", ";", ":", "-", "+", "0", "1", "p", "x", "\n", "\t"):
                    self.check_other(text[:at] + sign + text[at:], program)
                    if sign != text[at]:
                        self.check_other(text[:at] + sign + text[at + 1:], program)
            for sign in (" ", ",", ";", ":", "-", "0 ", "p", "\n", "; ", ", ", " x"):
                self.check_other(text + sign, program)

    def check_other(self, text, program):
        try:
            other = parse_program(text)
        except BadText:
            return
        self.assertNotEqual(other, program, text)
        self.assertEqual(format_program(other), text)

    def test_every_beginning(self):
        for at in range(len(EXAMPLE) - 4):
            self.refuse(EXAMPLE[:at])
        self.refuse(EXAMPLE[:-1], EXAMPLE[:-2], EXAMPLE[:-3])
        self.assertEqual(len(parse_program(EXAMPLE[:-4])[3]), 1)

    def test_other_ways_to_write_a_number(self):
        for number in ("-0", "+1", "01", "-01", "00", "0x1", "1_0", "1.0", "1e0", "--1", "-", "", " 1", "1 ", "\u0661",
                       "\u00b2", "\uff11", "one", "True", "None", "0b1", "1\n", "\n1", "1\t", "- 1", "p", "1-"):
            self.refuse(f"vars {number}; locks 0; code; threads 0:0", f"vars {number}p; locks 0; code; threads 0:0",
                        f"vars; locks {number}; code; threads 0:0", f"vars; locks 0; code; threads {number}:0",
                        f"vars; locks 0; code; threads 0:{number}",
                        f"vars; locks 0; code const 0 {number}; threads 0:0",
                        f"vars; locks 0; code const {number} 0; threads 0:0",
                        f"vars; locks 0; code const 0 {number}, fence; threads 0:0")

    def test_numbers_outside_their_bounds(self):
        for number in ("1000", "-1000", "9999999999999999999", "1" * 5000, "-" + "9" * 10):
            self.refuse(f"vars {number}; locks 0; code; threads 0:0", f"vars; locks 0; code; threads 0:{number}",
                        f"vars; locks {number}; code; threads 0:0", f"vars; locks 0; code; threads {number}:0",
                        f"vars; locks 0; code const 0 {number}; threads 0:0")
        self.refuse("vars; locks 3; code; threads 0:0", "vars; locks -1; code; threads 0:0",
                    "vars; locks 0; code; threads 1:0", "vars; locks 0; code; threads -1:0",
                    "vars; locks 0; code const 4 0; threads 0:0", "vars; locks 0; code load 0 0; threads 0:0",
                    "vars 0; locks 0; code load 0 1; threads 0:0", "vars; locks 0; code lock 0; threads 0:0",
                    "vars; locks 0; code jump 2; threads 0:0", "vars; locks 0; code spawn 0 1 0; threads 0:0")

    def test_too_few_and_too_many(self):
        self.refuse("vars 0 0 0 0 0; locks 0; code; threads 0:0", "vars; locks 0; threads 0:0",
                    "vars; locks 0; code; threads", "vars; locks 0; code; threads ",
                    "vars; locks 0; code; threads 0:0 0:0 0:0 0:0 0:0",
                    "vars; locks 0" + "; code" * 7 + "; threads 0:0",
                    "vars; locks 0; code " + ", ".join(["fence"] * 17) + "; threads 0:0",
                    "vars; locks 0; code const 0; threads 0:0", "vars; locks 0; code const 0 0 0; threads 0:0",
                    "vars; locks 0; code fence 0; threads 0:0", "vars; locks; code; threads 0:0",
                    "vars; locks 0 0; code; threads 0:0", "vars; locks 0; code; threads 0",
                    "vars; locks 0; code; threads 0:", "vars; locks 0; code; threads :0",
                    "vars; locks 0; code; threads 0:0:0",
                    "vars; locks 0; code; threads 0:0; threads 0:0", "vars; vars; locks 0; code; threads 0:0")

    def test_plain_variables_only_where_they_may_be(self):
        self.assertEqual(parse_program("vars 0p; locks 0; code load 0 0; threads 0:0")[0], ((0, True),))
        self.refuse("vars 0p; locks 0; code swap 0 0 0; threads 0:0", "vars 0pp; locks 0; code; threads 0:0",
                    "vars 0P; locks 0; code; threads 0:0", "vars 0 p; locks 0; code; threads 0:0",
                    "vars p0; locks 0; code; threads 0:0", "vars; locks 0p; code; threads 0:0",
                    "vars; locks 0; code; threads 0:0p")

    def test_other_words_and_another_order(self):
        self.refuse("", " ", "vars", "; ; ; ", ";;;", "vars; locks 0; code", "Vars; locks 0; code; threads 0:0",
                    "variables; locks 0; code; threads 0:0", "vars; lock 0; code; threads 0:0",
                    "vars; locks 0; codes; threads 0:0", "vars; locks 0; code; thread 0:0",
                    "locks 0; vars; code; threads 0:0", "vars; locks 0; threads 0:0; code",
                    "vars; locks 0; code nothing; threads 0:0", "vars; locks 0; code Fence; threads 0:0",
                    "vars; locks 0; code 0; threads 0:0", "vars; locks 0; code fence,; threads 0:0",
                    "vars; locks 0; code , fence; threads 0:0", "vars; locks 0; code fence,fence; threads 0:0",
                    "vars; locks 0; code fence fence; threads 0:0", "vars; locks 0; code fence, ; threads 0:0",
                    "vars;locks 0;code;threads 0:0", "vars ; locks 0; code; threads 0:0",
                    "vars; locks 0; code ; threads 0:0", "vars;  locks 0; code; threads 0:0",
                    "vars; locks 0; code; threads 0:0;", "vars; locks 0; code; threads 0:0 ",
                    " vars; locks 0; code; threads 0:0", "vars; locks 0; code; threads 0:0\n",
                    "vars; locks 0; code; threads 0:0; ", "vars; locks 0; code; threads  0:0",
                    "vars; locks 0; code; threads 0: 0", "vars; locks 0; code; threads 0:0, 0:0",
                    "program vars; locks 0; code; threads 0:0")


if __name__ == "__main__":
    unittest.main()
