"""A second checker, by search and by walks, for few people and few names."""

import itertools

from common import all_rows, walk_word
from sample_records import all_orders, compared, explains


def is_integer(value, least, greatest):
    return type(value) is int and least <= value <= greatest


def is_row(value):
    if type(value) is not tuple or not 1 <= len(value) <= 12:
        return False
    return all(is_integer(person, 1, 999) for person in value) and len(set(value)) == len(value)


def is_word(value):
    return type(value) is str and len(value) <= 400 and set(value) <= set("ST")


def is_name(value):
    return type(value) is str and 1 <= len(value) <= 6 and all("a" <= letter <= "z" for letter in value)


def is_name_row(value):
    if type(value) is not tuple or not 2 <= len(value) <= 12:
        return False
    return all(is_name(name) for name in value) and len(set(value)) == len(value)


def is_record(value):
    if type(value) is not tuple or len(value) != 3 or not is_name_row(value[0]) or not is_name_row(value[2]):
        return False
    return type(value[1]) is str and value[1] in ("S", "T") and set(value[0]) == set(value[2])


def are_records(value):
    if type(value) is not tuple or not 1 <= len(value) <= 20 or not all(is_record(record) for record in value):
        return False
    return all(set(record[0]) == set(value[0][0]) for record in value)


def are_heights(value):
    return is_row(value) and list(value) == sorted(value)


def are_wishes(value, heights):
    if type(value) is not tuple:
        return False
    for wish in value:
        if type(wish) is not tuple or len(wish) != 2 or type(wish[0]) is not int or wish[0] not in heights:
            return False
        if not is_integer(wish[1], 0, len(heights) - 1):
            return False
    indexes = [index for _, index in value]
    wished = [height for height, _ in value]
    return indexes == sorted(set(indexes)) and len(wished) == len(set(wished))


def possible_counts(other):
    """The counts that a paper for "no path" has, with the numbers of the shortest among the last people."""
    found = []
    for count in range(len(other) + 1):
        last = [(other[index], other[:index + 1]) for index in range(len(other) - count, len(other))]
        if all(person in (min(people), max(people)) for person, people in last):
            found.append((count, [person == min(people) for person, people in last].count(True)))
        else:
            break
    return found


def path(claim, paper):
    if len(claim) != 3 or not is_row(claim[1]) or not is_row(claim[2]) or set(claim[1]) != set(claim[2]):
        return False
    return is_word(paper) and walk_word(claim[1], paper) == claim[2]


def no_path(claim, paper):
    if len(claim) != 3 or not is_row(claim[1]) or not is_row(claim[2]) or set(claim[1]) != set(claim[2]):
        return False
    _, row, other = claim
    counts = possible_counts(other)
    # The person at the front cannot differ once all others are placed: there is no index left.
    if counts[-1][0] >= len(row) - 1 or type(paper) is not tuple or len(paper) != len(counts):
        return False
    for pair, (count, shorts) in zip(paper, counts):
        if type(pair) is not tuple or len(pair) != 2 or not is_integer(pair[0], count, count):
            return False
        people = walk_word(row, "T" * (count - shorts) + "S" * shorts)[:len(row) - count]
        if not is_integer(pair[1], 0, len(people) - 1) or people[pair[1]] == other[pair[1]]:
            return False
    return True


def size_and_words(claim):
    return len(claim) == 4 and is_integer(claim[1], 1, 12) and is_word(claim[2]) and is_word(claim[3])


def same(claim, paper):
    if paper is not None or not size_and_words(claim):
        return False
    _, size, word, other = claim
    if size <= 4:
        return all(walk_word(row, word) == walk_word(row, other) for row in all_rows(size))
    if min(len(word), len(other)) < size - 1:
        return word == other
    return word[1 - size:] == other[1 - size:]


def different(claim, paper):
    if not size_and_words(claim) or not is_row(paper) or len(paper) != claim[1]:
        return False
    return walk_word(paper, claim[2]) != walk_word(paper, claim[3])


def order(claim, paper):
    if len(claim) != 2 or not are_records(claim[1]) or not is_name_row(paper):
        return False
    return set(paper) == set(claim[1][0][0]) and all(explains(paper, record) for record in claim[1])


def compared_by_search(record):
    orders = all_orders((record,))
    return compared(orders[0], record) if orders else None


def no_order(claim, paper):
    if len(claim) != 2 or not are_records(claim[1]) or type(paper) is not tuple or len(paper) != 2:
        return False
    records = claim[1]
    if type(paper[0]) is not str or paper[0] not in ("impossible", "cycle"):
        return False
    pairs = [compared_by_search(record) for record in records]
    if paper[0] == "impossible":
        return is_integer(paper[1], 0, len(records) - 1) and pairs[paper[1]] is None
    if type(paper[1]) is not tuple or not paper[1]:
        return False
    for step in paper[1]:
        if type(step) is not tuple or len(step) != 3 or not is_name(step[0]) or not is_name(step[1]):
            return False
        if not is_integer(step[2], 0, len(records) - 1) or pairs[step[2]] is None or step[:2] not in pairs[step[2]]:
            return False
    following = paper[1][1:] + paper[1][:1]
    return all(one[1] == two[0] for one, two in zip(paper[1], following))


def heights_and_wishes(claim):
    return len(claim) == 3 and are_heights(claim[1]) and are_wishes(claim[2], claim[1])


def placed(claim, paper):
    if not heights_and_wishes(claim) or not is_word(paper) or len(paper) != len(claim[1]) - 1:
        return False
    row = walk_word(claim[1][::-1], paper)
    return all(row[index] == height for height, index in claim[2])


def allowed(heights, wishes, index, person):
    here = [height for height, at in wishes if at == index]
    elsewhere = [height for height, at in wishes if at != index]
    return person not in elsewhere and here in ([], [person])


def not_placed(claim, paper):
    if not heights_and_wishes(claim) or type(paper) is not tuple or len(paper) != len(claim[1]):
        return False
    _, heights, wishes = claim
    before = (0,)
    for index, counts in zip(range(len(heights) - 1, -1, -1), paper):
        if type(counts) is not tuple or not all(is_integer(count, 0, len(heights) - index) for count in counts):
            return False
        if list(counts) != sorted(set(counts)):
            return False
        remaining = index + 1
        for count in before:
            for rank, reached in ((count + 1, count + 1), (count + remaining, count)):
                if allowed(heights, wishes, index, heights[rank - 1]) and reached not in counts:
                    return False
        before = counts
    return before == ()


CHECKS = {
    "path": path, "no path": no_path, "same": same, "different": different, "order": order, "no order": no_order,
    "placed": placed, "not placed": not_placed,
}


def accepts(claim, paper):
    if type(claim) is not tuple or not claim or type(claim[0]) is not str or claim[0] not in CHECKS:
        return False
    return CHECKS[claim[0]](claim, paper)


def is_true(claim):
    """Whether a claim that has the right form is true, by search."""
    if claim[0] in ("path", "no path"):
        words = itertools.chain.from_iterable(
            itertools.product("ST", repeat=length) for length in range(len(claim[1]))
        )
        found = any(walk_word(claim[1], word) == claim[2] for word in words)
        return found == (claim[0] == "path")
    if claim[0] in ("same", "different"):
        found = all(walk_word(row, claim[2]) == walk_word(row, claim[3]) for row in all_rows(claim[1]))
        return found == (claim[0] == "same")
    if claim[0] in ("order", "no order"):
        return bool(all_orders(claim[1])) == (claim[0] == "order")
    rows = [walk_word(claim[1], word) for word in itertools.product("ST", repeat=len(claim[1]) - 1)]
    found = any(all(row[index] == height for height, index in claim[2]) for row in rows)
    return found == (claim[0] == "placed")
