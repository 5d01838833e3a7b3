"""Plates, and the one text that each of them has."""

from halfseendesk.looks import CELLS, ROW
from halfseendesk.showings import MOST_FLAGS, MOST_HOISTS
from halfseendesk.texts import BLANK, LINE_END, cut, place_among, places_in, read_colours, spelled

SIDES = ("front", "behind", "unknown")
UNKNOWN_SIDE = 2
HOIST_LINES = ("hoist", "hoist above", "hoist below", "hoist above below")
SEEN_SHAPES = ("square", "tails", "long", "shape?")
SEEN_SIGNS = "0123456789abcdef?"
UNSEEN_SHAPE = 3
UNSEEN_CELL = 16

SIDE_LINE = 0
HOIST_LINE = 1
SHAPE_LINE = 2
CELLS_LINE = 3

NO_SUCH_LINE = 1
WRONG_PLACE = 2


class NoPlate(Exception):
    def __init__(self, kind, line):
        Exception.__init__(self)
        self.kind = kind
        self.line = line


# A shape is a place in SEEN_SHAPES, a cell one in SEEN_SIGNS: the last is what wasn't made out.
class Sighting:
    def __init__(self, shape, cells):
        self.shape = shape
        self.cells = cells


class Glimpse:
    def __init__(self, above, below, flags):
        self.above = above
        self.below = below
        self.flags = flags


class Plate:
    def __init__(self, side, classes, glimpses):
        self.side = side
        self.classes = classes
        self.glimpses = glimpses


def read_plate(text):
    lines = cut(text, LINE_END)
    rest = lines.pop()
    # No classes: as long as line 0 hasn't been taken.
    plate = Plate(0, [], [])
    for number, line in enumerate(lines):
        told = read_line(line)
        if told is None:
            raise NoPlate(NO_SUCH_LINE, number)
        if not may_stand(plate, told[0]):
            raise NoPlate(WRONG_PLACE, number)
        put(plate, told[0], told[1])
    if text == [] or rest != []:
        raise NoPlate(NO_SUCH_LINE, len(lines))
    if not has_whole_hoists(plate):
        raise NoPlate(WRONG_PLACE, len(lines))
    return plate


# No line is of two sorts; the readings stand in the order of the sorts' numbers.
def read_line(line):
    readings = (read_side(line), place_among(HOIST_LINES, line), place_among(SEEN_SHAPES, line), read_row(line))
    for sort, told in enumerate(readings):
        if told is not None:
            return (sort, told)
    return None


def read_side(line):
    words = cut(line, BLANK)
    if len(words) != 3 or words[0] != spelled("seen"):
        return None
    side = place_among(SIDES, words[1])
    classes = read_colours(words[2])
    if side is None or classes is None:
        return None
    return (side, classes)


def read_row(line):
    if len(line) != ROW:
        return None
    return places_in(SEEN_SIGNS, line)


def may_stand(plate, sort):
    if plate.classes == [] or sort == SIDE_LINE:
        return plate.classes == [] and sort == SIDE_LINE
    if sort == CELLS_LINE or lacks_cells(plate):
        return sort == CELLS_LINE and lacks_cells(plate)
    if sort == HOIST_LINE:
        return len(plate.glimpses) < MOST_HOISTS and not lacks_flags(plate)
    return plate.glimpses != [] and len(plate.glimpses[-1].flags) < MOST_FLAGS


def lacks_flags(plate):
    return plate.glimpses != [] and plate.glimpses[-1].flags == []


def lacks_cells(plate):
    if plate.glimpses == [] or lacks_flags(plate):
        return False
    return len(plate.glimpses[-1].flags[-1].cells) < CELLS


def has_whole_hoists(plate):
    return plate.glimpses != [] and not lacks_flags(plate) and not lacks_cells(plate)


def put(plate, sort, told):
    if sort == SIDE_LINE:
        plate.side = told[0]
        plate.classes = told[1]
    elif sort == HOIST_LINE:
        # HOIST_LINES stand so that above is the lower bit of their place and below the upper.
        plate.glimpses.append(Glimpse(told % 2 == 1, told // 2 == 1, []))
    elif sort == SHAPE_LINE:
        plate.glimpses[-1].flags.append(Sighting(told, []))
    else:
        plate.glimpses[-1].flags[-1].cells.extend(told)


def plate_text(plate):
    lines = ["seen " + SIDES[plate.side] + " " + signs_of(plate.classes)]
    for glimpse in plate.glimpses:
        lines.append(hoist_line(glimpse))
        for sighting in glimpse.flags:
            lines.append(SEEN_SHAPES[sighting.shape])
            lines.extend(cells_lines(sighting.cells))
    return spelled("".join([line + "\n" for line in lines]))


def hoist_line(glimpse):
    above = 1 if glimpse.above else 0
    below = 2 if glimpse.below else 0
    return HOIST_LINES[above + below]


def cells_lines(cells):
    return [signs_of(cells[place:place + ROW]) for place in range(0, CELLS, ROW)]


def signs_of(places):
    return "".join([SEEN_SIGNS[place] for place in places])
