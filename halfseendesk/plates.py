"""The calls: each answers one list, a number and what is told behind it, or a refusal."""

from halfseendesk.lockers import NoLocker, read_locker
from halfseendesk.looks import BEHIND, cells_seen, classes_of
from halfseendesk.platetexts import Glimpse, NoPlate, Plate, Sighting, plate_text, read_plate
from halfseendesk.showings import NoShowing, read_showing
from halfseendesk.texts import MOST_BYTES


def judge(p):
    if len(p) > MOST_BYTES:
        return [-2]
    try:
        plate = read_plate(p)
    except NoPlate as fault:
        return [-8, fault.kind, fault.line]
    return [len(plate.glimpses)]


def draw(light, side, t, s):
    if len(t) > MOST_BYTES:
        return [-2]
    try:
        locker = read_locker(t)
    except NoLocker:
        return [-6]
    if side > BEHIND:
        return [-1]
    try:
        hoists = read_showing(locker, s)
    except NoShowing:
        return [-4]
    text = plate_text(plate_seen(locker, hoists, classes_of(light), side))
    return [len(text)] + text


def plate_seen(locker, hoists, classes, side):
    return Plate(side, classes, [glimpse_of(locker, hoist, classes, side) for hoist in hoists])


def glimpse_of(locker, hoist, classes, side):
    kinds = [locker.kinds[flag] for flag in hoist]
    flags = [Sighting(kind.shape, cells_seen(kind.look, classes, side)) for kind in kinds]
    return Glimpse(False, False, flags)
