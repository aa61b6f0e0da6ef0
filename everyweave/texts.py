"""The textual form of a program: written, and read back."""

from everyweave.errors import BadProgram, BadText
from everyweave.programs import check_program

MOST_DIGITS = 9


def format_program(program):
    """The textual form of the program."""
    check_program(program)
    variables, locks, codes, threads = program
    sections = [" ".join(["vars"] + [variable_text(first, plain) for first, plain in variables])]
    sections.append(f"locks {locks}")
    sections.extend([code_text(code) for code in codes])
    sections.append(" ".join(["threads"] + [f"{code}:{argument}" for code, argument in threads]))
    return "; ".join(sections)


def variable_text(first, plain):
    return f"{first}p" if plain else str(first)


def code_text(code):
    if len(code) == 0:
        return "code"
    instructions = [" ".join([str(part) for part in instruction]) for instruction in code]
    return "code " + ", ".join(instructions)


def parse_program(text):
    """The program of which this is the textual form."""
    program = read_program(text)
    try:
        written = format_program(program)
    except BadProgram:
        raise BadText("this text tells no program") from None
    # A program has one textual form, so whatever was read too kindly shows here.
    if written != text:
        raise BadText("this text is not the textual form of what it tells")
    return program


def read_program(text):
    """The program of a text, if this is the textual form of one; otherwise whatever it may be."""
    sections = text.split("; ")
    if len(sections) < 4:
        return None
    variables = tuple([read_variable(word) for word in words_behind(sections[0], " ")])
    locks = integer_of(sections[1].partition(" ")[2])
    codes = tuple([read_code(section) for section in sections[2:-1]])
    threads = tuple([read_thread(word) for word in words_behind(sections[-1], " ")])
    return (variables, locks, codes, threads)


def words_behind(section, mark):
    """What stands behind the first word of a section, taken apart at the marks."""
    rest = section.partition(" ")[2]
    return [] if rest == "" else rest.split(mark)


def read_variable(word):
    return (integer_of(word.removesuffix("p")), word.endswith("p"))


def read_code(section):
    return tuple([read_instruction(text) for text in words_behind(section, ", ")])


def read_instruction(text):
    word, *numbers = text.split(" ")
    return (word, *[integer_of(number) for number in numbers])


def read_thread(word):
    code, _, argument = word.partition(":")
    return (integer_of(code), integer_of(argument))


def integer_of(word):
    """The integer that is written so, or None; one with more digits than any line may have is none."""
    digits = word.removeprefix("-")
    if not (digits.isascii() and digits.isdigit() and len(digits) <= MOST_DIGITS):
        return None
    number = int(word)
    return number if str(number) == word else None
