"""Books: their entries, each with a row of signs and what it means, and the text that tells them."""

from halfseendesk.displays import display_told
from halfseendesk.lockers import SIGN
from halfseendesk.showings import MOST_FLAGS
from halfseendesk.texts import BLANK, cut, name_behind, whole_lines

TITLE_LINES = 2
MOST_ENTRIES = 2048
LONGEST_MEANING = 64
FULL_STOP = 46
LAST_PRINTED = 126


class NoBook(Exception):
    pass


class Entry:
    def __init__(self, row, meaning):
        self.row = row
        self.meaning = meaning


class Book:
    def __init__(self, name, entries):
        self.name = name
        self.entries = entries


def read_book(locker, text):
    lines = whole_lines(text)
    if lines is None or not TITLE_LINES <= len(lines) <= TITLE_LINES + MOST_ENTRIES:
        raise NoBook()
    name = name_behind("book", lines[0])
    if name is None or name_behind("for", lines[1]) != locker.name:
        raise NoBook()
    numbers = numbers_of_signs(locker.kinds)
    entries = [read_entry(line, numbers) for line in lines[TITLE_LINES:]]
    if not are_in_order(entries) or not can_be_shown(locker.kinds, entries):
        raise NoBook()
    return Book(name, entries)


# The names stand as tuples: a list can't be looked up.
def numbers_of_signs(kinds):
    return dict([(tuple(kind.name), number) for number, kind in enumerate(kinds) if kind.role == SIGN])


# No name has a blank in it: the first one ends the row.
def read_entry(line, numbers):
    if BLANK not in line:
        raise NoBook()
    end = line.index(BLANK)
    return Entry(read_signs(line[:end], numbers), read_meaning(line[end + 1:]))


def read_signs(part, numbers):
    row = [numbers.get(tuple(name)) for name in cut(part, FULL_STOP)]
    if len(row) > MOST_FLAGS or None in row:
        raise NoBook()
    return row


# A blank at an end, two side by side and a meaning of no bytes all leave an empty word.
def read_meaning(part):
    if len(part) > LONGEST_MEANING or [] in cut(part, BLANK):
        raise NoBook()
    if not all([BLANK <= byte <= LAST_PRINTED for byte in part]):
        raise NoBook()
    return part


def are_in_order(entries):
    places = [(len(entry.row), entry.row) for entry in entries]
    return all([places[before] < place for before, place in enumerate(places[1:])])


def can_be_shown(kinds, entries):
    return all([display_told(kinds, [entry.row]) is not None for entry in entries])
