"""Looked at again: the fewest flags that leave just one of the readings, whichever was shown."""

from halfseendesk.showings import MOST_FLAGS
from halfseendesk.sights import sighting_of

MOST_FLAGS_ASKED = 12
MOST_READINGS_ASKED = 64


class CutOff(Exception):
    pass


class NoReading(Exception):
    pass


class TooMuchToAsk(Exception):
    pass


class NeverSettled(Exception):
    pass


# What one reading looks like from one side: flag by flag, through all hoists.
class Appearance:
    def __init__(self, entries, flags):
        self.entries = entries
        self.flags = flags


# How many flags, and which, by their bits.
def fewest_flags(kinds, plate, readings):
    if any([glimpse.above or glimpse.below for glimpse in plate.glimpses]):
        raise CutOff()
    if readings == []:
        raise NoReading()
    bits = bits_of_flags(plate)
    if len(bits) > MOST_FLAGS_ASKED or len(readings) > MOST_READINGS_ASKED:
        raise TooMuchToAsk()
    differences = differences_among(appearances_of(kinds, plate, readings), bits)
    settling = [(how_many(choice), choice) for choice in choices_of(bits) if settles(choice, differences)]
    if settling == []:
        raise NeverSettled()
    return min(settling)


def bits_of_flags(plate):
    bits = []
    for j, glimpse in enumerate(plate.glimpses):
        bits.extend([1 << (MOST_FLAGS * j + place) for place in range(len(glimpse.flags))])
    return bits


def appearances_of(kinds, plate, readings):
    appearances = []
    for reading in readings:
        for side in reading.sides:
            appearances.append(Appearance(reading.entries, flags_seen(kinds, plate, reading, side)))
    return appearances


def flags_seen(kinds, plate, reading, side):
    seen = []
    for hoist in reading.hoists:
        seen.extend([sighting_of(kinds[flag], plate.classes, side) for flag in hoist])
    return [(flag.shape, flag.cells) for flag in seen]


# Of every two readings, from whichever sides, the flags that look different, as bits; each such
# choice of flags once, since many readings differ in the same ones.
def differences_among(appearances, bits):
    differences = {}
    for number, one in enumerate(appearances):
        for other in appearances[:number]:
            if one.entries != other.entries:
                differences[difference(one, other, bits)] = True
    return list(differences)


def difference(one, other, bits):
    return sum([bit for place, bit in enumerate(bits) if one.flags[place] != other.flags[place]])


def choices_of(bits):
    choices = [0]
    for bit in bits:
        choices = choices + [choice + bit for choice in choices]
    return choices


def settles(choice, differences):
    for flags in differences:
        if choice & flags == 0:
            return False
    return True


def how_many(choice):
    ones = 0
    while choice > 0:
        ones += choice & 1
        choice = choice >> 1
    return ones
