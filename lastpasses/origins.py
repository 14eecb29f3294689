"""Where a row can come from by passes of one kind."""

from lastpasses.limits import MOST_LETTERS
from lastpasses.passes import check_kind
from lastpasses.rows import check_number, check_row


def leads_so_far(people, kind):
    """Return for each person whether all people before are shorter, or taller for kind S."""
    if kind == "T":
        return [person == max(people[:index + 1]) for index, person in enumerate(people)]
    return [person == min(people[:index + 1]) for index, person in enumerate(people)]


def ends_with_held(row, kind, many):
    """Return True if so many people at the back stand as that many passes leave those whom they hold back."""
    ascending = sorted(row)
    if kind == "S":
        ascending = ascending[::-1]
    return list(row[len(row) - many:]) == ascending[len(row) - many:]


def origins(row, kind):
    """Return the ascending tuple of all rows that one pass of this kind turns into the row."""
    check_row(row)
    check_kind(kind)
    # A sitter came just before the people who left while this person sat, and left just behind them. Whoever leads
    # may have been a sitter. Those who left behind the last sitter so far are waiting for the one they came to; there
    # is none if the last person of the row does not lead.
    found = [([], [])]
    for person, leads in zip(row, leads_so_far(row, kind)):
        following = [(come, waiting + [person]) for come, waiting in found]
        if leads:
            following += [(come + [person] + waiting, []) for come, waiting in found]
        found = following
    return tuple(sorted([tuple(come) for come, waiting in found if not waiting]))


def count_origins(row, kind, times):
    """Return the number of rows that so many passes of this kind turn into the row."""
    check_row(row)
    check_kind(kind)
    check_number(times, 0, MOST_LETTERS)
    held = min(times, len(row))
    if not ends_with_held(row, kind, held):
        return 0
    # The passes are a desk with so many seats. Its first people came in any order. When a person left who leads, any
    # of those at the desk may just have come; when another left, it was this person who had just come.
    ways = 1
    for number in range(1, held + 1):
        ways *= number
    for leads in leads_so_far(row[:len(row) - held], kind):
        if leads:
            ways *= held + 1
    return ways
