"""Programs of words, desks and repeats."""

from lastpasses.errors import InvalidProgram, TooManySeats
from lastpasses.limits import MOST_LETTERS, MOST_PEOPLE, MOST_TIMES
from lastpasses.passes import after, is_word, last_letters
from lastpasses.rows import check_number, check_row, is_whole_from

MOST_STEPS = 60
MOST_NESTED = 5
DESK = "desk"
REPEAT = "repeat"


def is_desk(step):
    """Return True if a triple that begins with a string is a step through a desk."""
    name, shorts, talls = step
    if name != DESK or not is_whole_from(shorts, 0, MOST_PEOPLE):
        return False
    return is_whole_from(talls, 0, MOST_PEOPLE - shorts)


def may_be_repeat(step):
    """Return True if a triple that begins with a string repeats a tuple, whatever this contains."""
    name, times, steps = step
    return name == REPEAT and is_whole_from(times, 1, MOST_TIMES) and isinstance(steps, tuple)


def is_named_triple(value):
    """Return True if the value is a tuple of three that begins with a string."""
    return isinstance(value, tuple) and len(value) == 3 and isinstance(value[0], str)


def room_after_step(step, depth, room):
    """Return for how many steps there is room after this one, None if it is no step or there is no room for it.

    The step stands in a program that is nested so deep; the outermost program has the depth 1.
    """
    if room == 0:
        return None
    if isinstance(step, str):
        return room - 1 if step and is_word(step) else None
    if not is_named_triple(step):
        return None
    if may_be_repeat(step):
        return room_after_steps(step[2], depth + 1, room - 1)
    return room - 1 if is_desk(step) else None


def room_after_steps(steps, depth, room):
    """Return for how many steps there is room after those of a tuple, None if it is no program of this depth."""
    if depth > MOST_NESTED:
        return None
    for step in steps:
        room = room_after_step(step, depth, room)
        if room is None:
            return None
    return room


def wrong_step(program):
    """Return the index of the first step with which a tuple is no longer a program, None if there is none."""
    room = MOST_STEPS
    for index, step in enumerate(program):
        room = room_after_step(step, 1, room)
        if room is None:
            return index
    return None


def is_program(value):
    """Return True if the value is a program."""
    return isinstance(value, tuple) and wrong_step(value) is None


def check_program(program):
    """Raise InvalidProgram if the value is not a program."""
    if not isinstance(program, tuple):
        raise InvalidProgram(None)
    index = wrong_step(program)
    if index is not None:
        raise InvalidProgram(index)


def count_in_step(step):
    """Return the numbers of passes of kind S and of kind T of a step."""
    if isinstance(step, str):
        return step.count("S"), step.count("T")
    name, first, second = step
    if name == DESK:
        return first, second
    shorts, talls = count_in_steps(second)
    return first * shorts, first * talls


def count_in_steps(steps):
    """Return the numbers of passes of kind S and of kind T of all steps together."""
    shorts = 0
    talls = 0
    for step in steps:
        more_shorts, more_talls = count_in_step(step)
        shorts += more_shorts
        talls += more_talls
    return shorts, talls


def count_passes(program):
    """Return the pair of the number of passes of kind S and the number of passes of kind T."""
    check_program(program)
    return count_in_steps(program)


def end_of_repeat(word, times, most):
    """Return the last letters of the word written so many times, at most `most`."""
    if word == "":
        return ""
    # More copies than this cannot show: the number of times may be far too great to write them all.
    copies = min(times, most // len(word) + 1)
    return last_letters(word * copies, most)


def end_of_step(step, most):
    """Return the word of the last passes of a step, at most so many."""
    if isinstance(step, str):
        return last_letters(step, most)
    name, first, second = step
    if name == DESK:
        return last_letters("S" * first + "T" * second, most)
    return end_of_repeat(end_of_steps(second, most), first, most)


def end_of_steps(steps, most):
    """Return the word of the last passes of all steps together, at most so many."""
    word = ""
    for step in reversed(steps):
        word = end_of_step(step, most - len(word)) + word
    return word


def last_passes(program, *, count=MOST_LETTERS):
    """Return the word of the last passes of the program, or of all if there are fewer."""
    check_program(program)
    check_number(count, 0, MOST_LETTERS)
    return end_of_steps(program, count)


def seats_in_step(step):
    """Return the greatest number of seats of a desk in a step, 0 if there is none."""
    if isinstance(step, str):
        return 0
    name, first, second = step
    return first + second if name == DESK else seats_in_steps(second)


def seats_in_steps(steps):
    """Return the greatest number of seats of a desk in all steps, 0 if there is none."""
    return max([seats_in_step(step) for step in steps], default=0)


def largest_desk(program):
    """Return the greatest number of seats of a desk in the program, 0 if there is none."""
    check_program(program)
    return seats_in_steps(program)


def run(row, program):
    """Return the row after the program."""
    check_row(row)
    check_program(program)
    seats = seats_in_steps(program)
    if seats > len(row):
        raise TooManySeats(seats)
    # Earlier passes leave no trace: one pass fewer than there are people settles the row.
    return after(row, end_of_steps(program, len(row) - 1))
