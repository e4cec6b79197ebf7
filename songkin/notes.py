"""What a note and a tune are, and how numbers tell them."""

from songkin.errors import NotAsTold

HIGHEST_KEY = 127
LONGEST = 1000
MOST_NOTES = 24


class Note:
    """A note of a tune, or a rest in it."""

    def __init__(self, key, length):
        # A rest's key is None and not a number, because a moved tune's keys may be any number.
        self.key = key
        self.length = length


def tune_of(numbers):
    """Give the tune that numbers tell, a key and a length for each note, as a list of notes."""
    if len(numbers) > 2 * MOST_NOTES:
        raise NotAsTold()
    return [note_of(numbers[at], numbers[at + 1]) for at in range(0, len(numbers), 2)]


def note_of(key, length):
    """Give the note that a key, below 0 for a rest, and a length tell."""
    if key > HIGHEST_KEY or length < 1 or length > LONGEST:
        raise NotAsTold()
    if key < 0:
        return Note(None, length)
    return Note(key, length)
