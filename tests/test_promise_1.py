"""Promise 1: a text tells one plate, a plate has one text."""

import itertools
import unittest

from halfseendesk.plates import draw, judge
from halfseendesk.platetexts import plate_text, read_plate
from tests.samples import locker, text

SIDES = ("front", "behind", "unknown")
LIGHTS = ("0123456789abcdef", "fedcba9876543210", "0000000000000000")
ENDS = ("", " above", " below", " above below")
SHAPES = ("square", "tails", "long", "shape?")
ROWS = (("0123", "4567", "89ab", "cdef"), ("????", "0?0?", "f??0", "????"), ("3210", "7654", "ba98", "fedc"))


def plain(plate):
    """All that a plate is, as values that can be compared and kept."""
    glimpses = [
        (glimpse.above, glimpse.below, tuple((flag.shape, tuple(flag.cells)) for flag in glimpse.flags))
        for glimpse in plate.glimpses
    ]
    return (plate.side, tuple(plate.classes), tuple(glimpses))


def texts_of_plates():
    for side, light in itertools.product(SIDES, LIGHTS):
        for ends, shape, rows in itertools.product(ENDS, SHAPES, ROWS):
            first = ["hoist" + ends, shape, *rows]
            yield text(f"seen {side} {light}", *first)
            yield text(f"seen {side} {light}", *first, "hoist", "long", *ROWS[0])
            yield text(f"seen {side} {light}", "hoist", "long", *ROWS[0], *first)
            yield text(f"seen {side} {light}", *first, "long", *ROWS[0])
            yield text(f"seen {side} {light}", *first, *([shape, *rows] * 7), *first * 3)


class OnePlateOneText(unittest.TestCase):
    def test_a_plate_is_written_as_it_was_read(self):
        for p in texts_of_plates():
            self.assertEqual(plate_text(read_plate(p)), p)

    def test_different_texts_tell_different_plates(self):
        texts = {bytes(p) for p in texts_of_plates()}
        self.assertEqual(len({plain(read_plate(list(p))) for p in texts}), len(texts))

    def test_what_a_text_tells(self):
        p = text("seen unknown fedcba9876543210", "hoist above", "shape?", "0123", "4567", "89ab", "cde?",
                 "hoist below", "tails", "????", "0000", "1111", "2222")
        self.assertEqual(plain(read_plate(p)), (2, (15, 14, 13, 12, 11, 10, 9, 8, 7, 6, 5, 4, 3, 2, 1, 0), (
            (True, False, ((3, (0, 1, 2, 3, 4, 5, 6, 7, 8, 9, 10, 11, 12, 13, 14, 16)),)),
            (False, True, ((1, (16, 16, 16, 16, 0, 0, 0, 0, 1, 1, 1, 1, 2, 2, 2, 2)),)))))

    def test_no_other_way_to_write_a_plate(self):
        first, second = "hoist above below", "0a?f"
        p = ["seen front 0123456789abcdef", first, "square", second, "0000", "0000", "0000"]
        self.assertEqual(judge(text(*p)), [1])
        for place, other in ((0, "seen front 0123456789ABCDEF"), (0, "SEEN front 0123456789abcdef"),
                             (1, "hoist below above"), (1, "hoist above  below"), (1, "hoist above below "),
                             (3, "0A?f"), (3, "0 a ? f"), (2, "Square")):
            self.assertEqual(judge(text(*p[:place], other, *p[place + 1:])), [-8, 1, place])
        self.assertEqual(judge(text(*p, "")), [-8, 1, 7])
        self.assertEqual(judge(text(*p)[:-1]), [-8, 1, 6])

    def test_what_is_drawn_reads_back_as_itself(self):
        for side, light in itertools.product((0, 1), (0, 0xFEDCBA9876543210, 2 ** 64 - 1, 0x1234)):
            p = draw(light, side, locker(), [3, 2, 0, 1, 3, 2, 2, 3, 1, 0])[1:]
            plate = read_plate(p)
            self.assertEqual(plate.side, side)
            self.assertEqual(sum(kind * 16 ** colour for colour, kind in enumerate(plate.classes)), light)
            self.assertEqual([len(glimpse.flags) for glimpse in plate.glimpses], [2, 3, 1])
            self.assertFalse(any(glimpse.above or glimpse.below for glimpse in plate.glimpses))
            self.assertEqual(plate_text(plate), p)


if __name__ == "__main__":
    unittest.main()
