"""What a program is, and the check of one."""

from everyweave.errors import BadProgram

LEAST_VALUE = -999
GREATEST_VALUE = 999
REGISTERS = 4

# The shape of an instruction tells its numbers, a letter for each: r a register, v a value,
# n a place to go on with, x a variable, s a variable that is not plain, l a lock, k a code.
LOCAL_SHAPES = {
    "const": "rv",
    "copy": "rr",
    "add": "rrr",
    "sub": "rrr",
    "mul": "rrr",
    "eq": "rrr",
    "less": "rrr",
    "jump": "n",
    "branch": "rn",
    "assert": "r",
    "stop": "",
}
VISIBLE_SHAPES = {
    "load": "rx",
    "store": "xr",
    "swap": "rsr",
    "fetch": "rsr",
    "cas": "rsrr",
    "await": "rsr",
    "fence": "",
    "lock": "l",
    "unlock": "l",
    "spawn": "rkr",
    "join": "r",
}


def is_integer(number, least, greatest):
    """True for an integer from least to greatest; True and False are none."""
    return type(number) is int and least <= number <= greatest


def is_value(number):
    """True for what a variable may have and a register may hold."""
    return is_integer(number, LEAST_VALUE, GREATEST_VALUE)


def is_row(row, least, greatest):
    """True for a tuple with so many parts."""
    return type(row) is tuple and least <= len(row) <= greatest


def check_program(program):
    """Returns None, or raises BadProgram for what is no program."""
    if not is_row(program, 4, 4):
        raise BadProgram("a program is a tuple of variables, locks, codes and threads")
    variables, locks, codes, threads = program
    check_variables(variables)
    if not is_integer(locks, 0, 2):
        raise BadProgram("there are 0 to 2 locks")
    if not is_row(codes, 1, 6):
        raise BadProgram("the codes are a tuple of 1 to 6 codes")
    for code in codes:
        check_code(code, program)
    check_threads(threads, len(codes))


def check_variables(variables):
    if not is_row(variables, 0, 4):
        raise BadProgram("the variables are a tuple of 0 to 4 pairs")
    for variable in variables:
        if not is_row(variable, 2, 2):
            raise BadProgram("a variable is a pair of its first value and plain")
        first, plain = variable
        if not is_value(first):
            raise BadProgram("the first value of a variable is an integer from -999 to 999")
        if type(plain) is not bool:
            raise BadProgram("plain is True or False")


def check_threads(threads, many_codes):
    if not is_row(threads, 1, 4):
        raise BadProgram("the threads are a tuple of 1 to 4 pairs")
    for thread in threads:
        if not is_row(thread, 2, 2):
            raise BadProgram("a thread is a pair of the index of a code and an argument")
        index, argument = thread
        if not is_integer(index, 0, many_codes - 1):
            raise BadProgram("a thread runs a code of the program")
        if not is_value(argument):
            raise BadProgram("an argument is an integer from -999 to 999")


def check_code(code, program):
    if not is_row(code, 0, 16):
        raise BadProgram("a code is a tuple of 0 to 16 instructions")
    variables, locks, codes, _ = program
    bounds = {
        "r": (0, REGISTERS - 1),
        "v": (LEAST_VALUE, GREATEST_VALUE),
        "n": (0, len(code)),
        "x": (0, len(variables) - 1),
        "s": (0, len(variables) - 1),
        "l": (0, locks - 1),
        "k": (0, len(codes) - 1),
    }
    for instruction in code:
        check_instruction(instruction, bounds, variables)


def check_instruction(instruction, bounds, variables):
    shape = shape_of(instruction)
    if len(instruction) != len(shape) + 1:
        raise BadProgram(f"{instruction[0]} takes {len(shape)} numbers")
    for letter, number in zip(shape, instruction[1:]):
        least, greatest = bounds[letter]
        if not is_integer(number, least, greatest):
            raise BadProgram(f"{instruction[0]} has a number that it does not take")
        if letter == "s" and variables[number][1]:
            raise BadProgram(f"{instruction[0]} does not take a plain variable")


def shape_of(instruction):
    if type(instruction) is not tuple or len(instruction) == 0:
        raise BadProgram("an instruction is a tuple of a word and its numbers")
    word = instruction[0]
    # What is no string may have no hash, so it is not looked up.
    if type(word) is not str:
        raise BadProgram("an instruction begins with a word")
    if word in LOCAL_SHAPES:
        return LOCAL_SHAPES[word]
    if word in VISIBLE_SHAPES:
        return VISIBLE_SHAPES[word]
    raise BadProgram("an instruction begins with a word that there is not")
