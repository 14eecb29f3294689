"""Which words have the same effect on every row of a size, and the words of all effects in order."""

from lastpasses.passes import KINDS, check_word, last_letters
from lastpasses.rows import check_number, check_size


def shortest(word, size):
    """Return the shortest word with the same effect on every row of this size."""
    check_word(word)
    check_size(size)
    return last_letters(word, size - 1)


def check_words(word, other, size):
    """Raise the error of the first value that is wrong for two words and a size."""
    check_word(word)
    check_word(other)
    check_size(size)


def same(word, other, size):
    """Return True if the words have the same effect on every row of this size."""
    check_words(word, other, size)
    return shortest(word, size) == shortest(other, size)


def common_end(word, other):
    """Return the longest word with which both words end."""
    length = 0
    while length < min(len(word), len(other)) and word[-1 - length] == other[-1 - length]:
        length += 1
    return last_letters(word, length)


def telling_row(longer, end, size):
    """Return a row on which a word and a word that is not longer differ, if this is their common end.

    Whom the common end places stands at the front. The others keep their order through the passes of the end, and
    whoever stands last among them is not whom the letter before the end in the longer word would place there.
    """
    shorts = end.count("S")
    middle = list(range(1 + shorts, size + 1 - end.count("T")))
    placed = list(range(1, 1 + shorts)) + list(range(size + 1 - end.count("T"), size + 1))
    if longer[-1 - len(end)] == "T":
        middle = middle[::-1]
    return tuple(placed + middle)


def difference(word, other, size):
    """Return a row of the heights 1 to `size` on which the words have different effects, None if there is none."""
    check_words(word, other, size)
    one = shortest(word, size)
    two = shortest(other, size)
    if one == two:
        return None
    longer = one if len(one) >= len(two) else two
    return telling_row(longer, common_end(one, two), size)


def is_constant(word, size):
    """Return True if the word turns all rows of the heights 1 to `size` into one row."""
    check_word(word)
    check_size(size)
    return len(word) >= size - 1


def word_count(size):
    """Return the number of different effects of words on rows of this size."""
    check_size(size)
    return (1 << size) - 1


def word_at(size, number):
    """Return the word with this number, from 0, among the words of fewer than `size` letters in their order."""
    check_number(number, 0, word_count(size) - 1)
    letters = []
    rest = number
    while rest > 0:
        rest -= 1
        letters.append(KINDS[rest & 1])
        rest //= 2
    return "".join(reversed(letters))


def number_of(word, size):
    """Return the number of the shortest word with the same effect, in the order of `word_at`."""
    number = 0
    for letter in shortest(word, size):
        number = 2 * number + KINDS.index(letter) + 1
    return number
