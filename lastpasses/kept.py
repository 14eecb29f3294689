"""The people at the front, whom the last passes only move up."""

from lastpasses.desks import desk


def kept(row, shorts, talls):
    """Return the first people of the row after a word with so many letters S and T, in whatever order."""
    people = desk(row, shorts, talls)
    return people[:len(row) - shorts - talls]
