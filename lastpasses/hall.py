"""A hall: people with names in a row, the deeds that change it, and a log of them."""

from lastpasses.errors import (
    FindError, HeightTaken, InvalidDeed, InvalidHeight, InvalidName, InvalidPeople, LastPerson, LimitError, NameTaken,
    NothingToUndo, PassError, TooManyDeeds, TooManyPeople, UnknownName,
)
from lastpasses.limits import MOST_DEEDS, MOST_PEOPLE
from lastpasses.programs import count_passes, run
from lastpasses.rows import is_height, is_name, may_be_row

RUN = "run"
ENTER = "enter"
LEAVE = "leave"

# How many parts each deed has, its word included.
PARTS = {"run": 2, "enter": 3, "leave": 2}


def is_person(value):
    """Return True if the value is a pair of a name and a height."""
    return isinstance(value, tuple) and len(value) == 2 and is_name(value[0]) and is_height(value[1])


def wrong_person_of(people):
    """Return the index of the first element that is no person or has an earlier name or height, None if none has."""
    names = []
    heights = []
    for index, person in enumerate(people):
        if not is_person(person) or person[0] in names or person[1] in heights:
            return index
        names.append(person[0])
        heights.append(person[1])
    return None


def check_people(people):
    """Raise InvalidPeople if the value is not the people of a hall."""
    if not may_be_row(people):
        raise InvalidPeople(None)
    index = wrong_person_of(people)
    if index is not None:
        raise InvalidPeople(index)


def is_deed(value):
    """Return True if the value is a tuple of the word of a deed and the right number of parts."""
    if not isinstance(value, tuple) or not value or not isinstance(value[0], str):
        return False
    return PARTS.get(value[0]) == len(value)


def check_deeds(deeds):
    """Raise InvalidDeed if the value is not a tuple of deeds; whether they can be done is not tested here."""
    if not isinstance(deeds, tuple):
        raise InvalidDeed(None)
    for index, deed in enumerate(deeds):
        if not is_deed(deed):
            raise InvalidDeed(index)


class Hall:
    """People in a row, and what was done to it."""

    def __init__(self, people):
        check_people(people)
        self.pairs = tuple([(name, height) for name, height in people])
        # Each deed of the log with the people before it. No tuple here is ever changed, so keeping the old ones is
        # enough to take deeds back.
        self.past = ()
        self.busy = False

    def __len__(self):
        return len(self.pairs)

    def __eq__(self, other):
        return isinstance(other, Hall) and self.pairs == other.pairs

    def __str__(self):
        return " ".join(self.names())

    def __repr__(self):
        return f"Hall({len(self.pairs)})"

    def names(self):
        """Return the names, in the order of the row."""
        return tuple([name for name, height in self.pairs])

    def heights(self):
        """Return the heights, in the order of the row."""
        return tuple([height for name, height in self.pairs])

    def people(self):
        """Return the pairs of a name and a height, in the order of the row."""
        return tuple([(name, height) for name, height in self.pairs])

    def log(self):
        """Return the deeds, the first one first."""
        return tuple([deed for deed, pairs in self.past])

    def index_of(self, name):
        """Return the index of the person."""
        if not is_name(name) or name not in self.names():
            raise UnknownName(name)
        return self.names().index(name)

    def settled(self):
        """Return True if the order of the people no longer depends on the order before the latest passes."""
        passes = 0
        for deed, pairs in reversed(self.past):
            if deed[0] != RUN or passes >= len(self.pairs) - 1:
                break
            passes += sum(count_passes(deed[1]))
        return passes >= len(self.pairs) - 1

    def keep(self, deed, pairs):
        """Append a deed to the log that leaves these people, if there is room for it."""
        if len(self.past) >= MOST_DEEDS:
            raise TooManyDeeds(MOST_DEEDS)
        self.past = (*self.past, (deed, self.pairs))
        self.pairs = pairs

    def run(self, program):
        """Let the row go through the program."""
        heights = run(self.heights(), program)
        names = {height: name for name, height in self.pairs}
        self.keep((RUN, program), tuple([(names[height], height) for height in heights]))

    def enter(self, name, height):
        """Let a person enter at the back."""
        if not is_name(name):
            raise InvalidName(name)
        if name in self.names():
            raise NameTaken(name)
        if not is_height(height):
            raise InvalidHeight(height)
        if height in self.heights():
            raise HeightTaken(height)
        if len(self.pairs) >= MOST_PEOPLE:
            raise TooManyPeople(MOST_PEOPLE)
        self.keep((ENTER, name, height), (*self.pairs, (name, height)))

    def leave(self, name):
        """Let a person leave; the others keep their order."""
        index = self.index_of(name)
        if len(self.pairs) == 1:
            raise LastPerson()
        self.keep((LEAVE, name), self.pairs[:index] + self.pairs[index + 1:])

    def perform(self, deed):
        """Perform one deed, given as a tuple of its word and the right number of parts."""
        if deed[0] == RUN:
            self.run(deed[1])
        elif deed[0] == ENTER:
            self.enter(deed[1], deed[2])
        else:
            self.leave(deed[1])

    def do_all(self, deeds, *, watch=None):
        """Perform the deeds in order, all or none; `watch` is called after each with the hall and its index."""
        check_deeds(deeds)
        busy = self.busy
        pairs = self.pairs
        past = self.past
        finished = None
        self.busy = True
        try:
            for index, deed in enumerate(deeds):
                self.perform(deed)
                if watch is not None:
                    watch(self, index)
            finished = True
        finally:
            self.busy = busy
            if finished is None:
                self.pairs, self.past = pairs, past

    def undo(self):
        """Take back the last deed of the log."""
        if not self.past:
            raise NothingToUndo()
        deed, pairs = self.past[-1]
        self.past = self.past[:-1]
        self.pairs = pairs


def replay(people, log):
    """Return a hall with these people in which the deeds of the log were performed in order."""
    hall = Hall(people)
    if not isinstance(log, tuple):
        raise InvalidDeed(None)
    for index, deed in enumerate(log):
        if not is_deed(deed):
            raise InvalidDeed(index)
        try:
            hall.perform(deed)
        except (PassError, FindError, LimitError):
            raise InvalidDeed(index) from None
    return hall
