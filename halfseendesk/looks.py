"""Looks: how the cells of a flag are seen in a light from a side."""

SHAPES = ("square", "tails", "long")
FRONT = 0
BEHIND = 1
COLOURS = 16
CELLS = 16
ROW = 4


# A light is kept as the list of its classes, colour by colour, as a plate's text tells it.
def classes_of(light):
    return [(light >> (4 * colour)) % 16 for colour in range(COLOURS)]


def cell_behind(cell):
    return cell - cell % ROW + ROW - 1 - cell % ROW


def cells_seen(look, classes, side):
    if side == BEHIND:
        return [classes[look[cell_behind(cell)]] for cell in range(CELLS)]
    return [classes[colour] for colour in look]
