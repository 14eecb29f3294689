"""The written form of a program."""

from lastpasses.errors import InvalidText
from lastpasses.limits import MOST_TIMES
from lastpasses.programs import DESK, REPEAT, check_program, is_program

DIGITS = "0123456789"
BEGIN = "("
END = ")x"
COLON = ":"


def format_step(step):
    """Return the written form of a step."""
    if isinstance(step, str):
        return step
    name, first, second = step
    if name == DESK:
        return f"{DESK}{COLON}{first}{COLON}{second}"
    inner = [format_step(inner_step) for inner_step in second]
    return " ".join([BEGIN, *inner, f"{END}{first}"])


def format_program(program):
    """Return the written form of the program."""
    check_program(program)
    return " ".join([format_step(step) for step in program])


def read_number(text):
    """Return the number with this written form, None if there is none or it is too long for any step."""
    if text == "" or len(text) > len(str(MOST_TIMES)):
        return None
    if any([digit not in DIGITS for digit in text]):
        return None
    if text[0] == "0" and text != "0":
        return None
    return int(text)


def read_desk(token):
    """Return the desk that is written so, None if it is not written as one; None stands for a wrong number."""
    parts = token.split(COLON)
    if len(parts) != 3 or parts[0] != DESK:
        return None
    return DESK, read_number(parts[1]), read_number(parts[2])


def read_steps(tokens):
    """Return the tuple of the steps that are written so, None if the parentheses do not match.

    None stands for what cannot be read. Words and limits are not tested here.
    """
    # One list of steps for each parenthesis that has not ended yet, behind that of the whole program.
    levels = [[]]
    for token in tokens:
        if token == BEGIN:
            levels.append([])
        elif token.startswith(END):
            inner = levels.pop()
            if not levels:
                return None
            levels[-1].append((REPEAT, read_number(token[len(END):]), tuple(inner)))
        elif COLON in token:
            levels[-1].append(read_desk(token))
        else:
            levels[-1].append(token)
    return tuple(levels[0]) if len(levels) == 1 else None


def parse_program(text):
    """Return the program whose written form is the text."""
    if not isinstance(text, str):
        raise InvalidText(text)
    program = read_steps(text.split(" ") if text else [])
    # What was wrong stands there as None, or as the empty token that a space too many leaves: it is no program then.
    if not is_program(program):
        raise InvalidText(text)
    return program
