"""The calls: each answers one list, a number and what is told behind it, or a refusal."""

from halfseendesk.asking import CutOff, NeverSettled, NoReading, TooMuchToAsk, fewest_flags
from halfseendesk.books import NoBook, read_book
from halfseendesk.lockers import NoLocker, read_locker
from halfseendesk.looks import BEHIND, classes_of
from halfseendesk.platetexts import Glimpse, NoPlate, Plate, plate_text, read_plate
from halfseendesk.readings import TooMuchInDoubt, readings_of
from halfseendesk.showings import NoShowing, read_showing
from halfseendesk.sights import sighting_of
from halfseendesk.tellings import TellsNothing, entries_tell
from halfseendesk.texts import MOST_BYTES


class Finding:
    def __init__(self, locker, book, plate, readings):
        self.locker = locker
        self.book = book
        self.plate = plate
        self.readings = readings


def judge(p):
    if len(p) > MOST_BYTES:
        return [-2]
    try:
        plate = read_plate(p)
    except NoPlate as fault:
        return [-8, fault.kind, fault.line]
    return [len(plate.glimpses)]


def draw(light, side, t, s):
    if len(t) > MOST_BYTES:
        return [-2]
    try:
        locker = read_locker(t)
    except NoLocker:
        return [-6]
    if side > BEHIND:
        return [-1]
    try:
        hoists = read_showing(locker, s)
    except NoShowing:
        return [-4]
    text = plate_text(plate_seen(locker, hoists, classes_of(light), side))
    return [len(text)] + text


def plate_seen(locker, hoists, classes, side):
    return Plate(side, classes, [glimpse_of(locker, hoist, classes, side) for hoist in hoists])


def glimpse_of(locker, hoist, classes, side):
    return Glimpse(False, False, [sighting_of(locker.kinds[flag], classes, side) for flag in hoist])


def many(t, b, p):
    return answered(t, b, p, lambda finding: [0, len(finding.readings)])


def nth(i, t, b, p):
    return answered(t, b, p, lambda finding: nth_told(i, finding))


def nth_told(i, finding):
    if i >= len(finding.readings):
        return [-4]
    numbers = finding.readings[i].entries
    return [len(numbers)] + numbers


def entries(j, t, b, p):
    return answered(t, b, p, lambda finding: entries_told(j, finding))


def entries_told(j, finding):
    if j >= len(finding.plate.glimpses):
        return [-4]
    numbers = sorted(set([reading.entries[j] for reading in finding.readings]))
    return [len(numbers)] + numbers


def ask(t, b, p):
    return answered(t, b, p, ask_told)


def ask_told(finding):
    try:
        fewest = fewest_flags(finding.locker.kinds, finding.plate, finding.readings)
    except CutOff:
        return [-3]
    except NoReading:
        return [-5]
    except TooMuchToAsk:
        return [-7]
    except NeverSettled:
        return [-10]
    return list(fewest)


def says(i, t, b, p):
    return answered(t, b, p, lambda finding: says_told(i, finding))


def says_told(i, finding):
    if i >= len(finding.readings):
        return [-4]
    try:
        text = entries_tell([finding.book.entries[number] for number in finding.readings[i].entries])
    except TellsNothing:
        return [-5]
    return [len(text)] + text


# The refusals that all calls with a book have, and then what is to be told of the readings.
def answered(t, b, p, told):
    if max(len(t), len(b), len(p)) > MOST_BYTES:
        return [-2]
    try:
        finding = found(t, b, p)
    except NoLocker:
        return [-6]
    except NoBook:
        return [-9]
    except NoPlate:
        return [-8]
    except TooMuchInDoubt:
        return [-7]
    return told(finding)


def found(t, b, p):
    locker = read_locker(t)
    book = read_book(locker, b)
    plate = read_plate(p)
    return Finding(locker, book, plate, readings_of(locker, book, plate))
