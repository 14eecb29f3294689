"""A console: a hall that is told what to do line by line."""

from lastpasses.errors import InvalidCommand, InvalidText, OtherPersons
from lastpasses.hall import Hall
from lastpasses.notation import parse_program, read_number
from lastpasses.reach import word_to
from lastpasses.rows import is_name

MOST_DIGITS = 30
DONE = "ok"


def read_nothing(words):
    """Return the values of a command that has none, None if there are words behind it."""
    return None if words else ()


def read_program(words):
    """Return the program behind a command as its only value, None if it is not written so."""
    if not words:
        return ((),)
    try:
        program = parse_program(" ".join(words))
    except InvalidText:
        return None
    # A space with nothing behind it is not the written form of any steps.
    return (program,) if program else None


def read_name(words):
    """Return the name behind a command as its only value, None if there is anything else."""
    return tuple(words) if len(words) == 1 and is_name(words[0]) else None


def read_names(words):
    """Return the names behind a command, None if there are none or there is anything else."""
    return tuple(words) if words and all([is_name(word) for word in words]) else None


def read_person(words):
    """Return the name and the height behind a command, None if there is anything else."""
    if len(words) != 2 or not is_name(words[0]) or len(words[1]) > MOST_DIGITS:
        return None
    height = read_number(words[1])
    return None if height is None else (words[0], height)


def tell_run(hall, values):
    """Let the row go through a program."""
    hall.run(values[0])
    return DONE


def tell_enter(hall, values):
    """Let a person enter."""
    hall.enter(values[0], values[1])
    return DONE


def tell_leave(hall, values):
    """Let a person leave."""
    hall.leave(values[0])
    return DONE


def tell_undo(hall, values):
    """Take back the last deed."""
    hall.undo()
    return DONE


def answer_row(hall, values):
    """Return the names in the order of the row."""
    return str(hall)


def answer_place(hall, values):
    """Return the index of a person."""
    return str(hall.index_of(values[0]))


def answer_settled(hall, values):
    """Return whether the row is settled."""
    return "yes" if hall.settled() else "no"


def answer_deeds(hall, values):
    """Return the number of deeds in the log."""
    return str(len(hall.log()))


def answer_word(hall, values):
    """Return the shortest word that leads to the names in this order."""
    if sorted(values) != sorted(hall.names()):
        raise OtherPersons()
    heights = dict(hall.people())
    word = word_to(hall.heights(), tuple([heights[name] for name in values]))
    if word is None:
        return "never"
    return word if word else "-"


READERS = {
    "run": read_program,
    "enter": read_person,
    "leave": read_name,
    "undo": read_nothing,
    "row": read_nothing,
    "place": read_name,
    "settled": read_nothing,
    "deeds": read_nothing,
    "word": read_names,
}

ACTIONS = {
    "run": tell_run,
    "enter": tell_enter,
    "leave": tell_leave,
    "undo": tell_undo,
    "row": answer_row,
    "place": answer_place,
    "settled": answer_settled,
    "deeds": answer_deeds,
    "word": answer_word,
}


class Console:
    """A hall behind a console."""

    def __init__(self, people):
        self.hall = Hall(people)

    def say(self, line):
        """Perform the command of the line and return its answer."""
        if not isinstance(line, str):
            raise InvalidCommand(line)
        words = line.split(" ")
        if words[0] not in READERS:
            raise InvalidCommand(line)
        reader = READERS[words[0]]
        values = reader(words[1:])
        if values is None:
            raise InvalidCommand(line)
        action = ACTIONS[words[0]]
        return action(self.hall, values)
