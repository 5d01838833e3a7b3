"""Sights: how flags are seen from a side, and which hoists may be what was half seen."""

from halfseendesk.looks import cells_seen
from halfseendesk.platetexts import UNSEEN_CELL, UNSEEN_SHAPE, Sighting


def sighting_of(kind, classes, side):
    return Sighting(kind.shape, cells_seen(kind.look, classes, side))


# What a plate may be of from one side: for each glimpse, for each of its flags the kinds that look so.
class View:
    def __init__(self, side, glimpses):
        self.side = side
        self.glimpses = glimpses


def view_of(kinds, plate, side):
    looks = [sighting_of(kind, plate.classes, side) for kind in kinds]
    return View(side, [kinds_along(looks, glimpse) for glimpse in plate.glimpses])


def kinds_along(looks, glimpse):
    return [kinds_that_look_so(looks, flag) for flag in glimpse.flags]


def kinds_that_look_so(looks, half):
    return [number for number, whole in enumerate(looks) if may_be(half, whole)]


def may_be(half, whole):
    if half.shape != UNSEEN_SHAPE and half.shape != whole.shape:
        return False
    return all([seen == UNSEEN_CELL or seen == whole.cells[cell] for cell, seen in enumerate(half.cells)])


def fits(hoists, plate, view):
    return all([hoist_fits(hoist, plate.glimpses[j], view.glimpses[j]) for j, hoist in enumerate(hoists)])


# Where nothing is unseen above, the hoist's first flag is the glimpse's; where nothing is below, its last.
def hoist_fits(hoist, glimpse, kinds_seen):
    unseen = len(hoist) - len(glimpse.flags)
    first = 0 if glimpse.below else unseen
    last = unseen if glimpse.above else 0
    return any([fits_at(place, hoist, kinds_seen) for place in range(first, last + 1)])


def fits_at(place, hoist, kinds_seen):
    return all([hoist[place + number] in kinds for number, kinds in enumerate(kinds_seen)])
