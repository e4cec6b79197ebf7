"""Tunes moved higher or lower, and the move by which one tune is cheapest to come to from another."""

from songkin.notes import Note
from songkin.ways import least_cost

FARTHEST = 24


class Shift:
    """By how many keys a tune is moved, and what it costs to come to it then."""

    def __init__(self, least, by):
        self.least = least
        self.by = by


def cheapest_shift(costs, first, second):
    """Give the move by which the second tune is cheapest to come to from the first one."""
    found = None
    for by in shifts_in_order():
        least = least_cost(costs, first, moved(second, by))
        # Of equal ones the first is kept.
        if found is None or least < found.least:
            found = Shift(least, by)
    return found


def shifts_in_order():
    """Give the moves that are tried: 0, 1, -1, 2, -2 and so on."""
    shifts = [0]
    for far in range(1, FARTHEST + 1):
        shifts.append(far)
        shifts.append(-far)
    return shifts


def moved(notes, by):
    """Give the notes of a tune with all keys so many higher, as notes of their own."""
    return [note_moved(note, by) for note in notes]


def note_moved(note, by):
    """Give the note with its key so many higher; a rest stays a rest."""
    if note.key is None:
        return Note(None, note.length)
    return Note(note.key + by, note.length)
