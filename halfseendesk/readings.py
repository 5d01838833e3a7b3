"""Readings: the rows of entries that a plate may show."""

from halfseendesk.displays import display_told
from halfseendesk.looks import BEHIND, FRONT
from halfseendesk.platetexts import UNKNOWN_SIDE
from halfseendesk.sights import fits, view_of

MOST_IN_DOUBT = 1024


class TooMuchInDoubt(Exception):
    pass


# The hoists are the display shown of the entries; the sides are those that it may have been seen from.
class Reading:
    def __init__(self, entries, hoists, sides):
        self.entries = entries
        self.hoists = hoists
        self.sides = sides


def readings_of(locker, book, plate):
    choices = [entries_in_doubt(book, glimpse) for glimpse in plate.glimpses]
    if product([len(choice) for choice in choices]) > MOST_IN_DOUBT:
        raise TooMuchInDoubt()
    views = [view_of(locker.kinds, plate, side) for side in sides_of(plate)]
    readings = []
    for numbers in all_rows(choices):
        hoists = display_told(locker.kinds, [book.entries[number].row for number in numbers])
        sides = [] if hoists is None else [view.side for view in views if fits(hoists, plate, view)]
        if sides != []:
            readings.append(Reading(numbers, hoists, sides))
    return readings


def entries_in_doubt(book, glimpse):
    seen = len(glimpse.flags)
    may_be_longer = glimpse.above or glimpse.below
    lengths = [len(entry.row) for entry in book.entries]
    return [number for number, length in enumerate(lengths) if length == seen or may_be_longer and length > seen]


def product(numbers):
    whole = 1
    for number in numbers:
        whole = whole * number
    return whole


# Where one choice is of nothing, nothing is in doubt however many the others are: asked first, or the
# rows of the others would be made in vain, and may be far too many.
def all_rows(choices):
    if [] in choices:
        return []
    rows = [[]]
    for choice in choices:
        longer = []
        for row in rows:
            longer.extend([row + [number] for number in choice])
        rows = longer
    return rows


def sides_of(plate):
    return [FRONT, BEHIND] if plate.side == UNKNOWN_SIDE else [plate.side]
