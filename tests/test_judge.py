"""judge: point 1 of the calls."""

import re
import unittest

from halfseendesk.plates import judge
from tests.samples import flag_lines, hoist_lines, plate_lines, text

SEEN = "seen front 0123456789abcdef"
WHOLE = re.compile("S(H(FCCCC){1,8}){1,4}")
LINE_SORTS = (
    ("S", re.compile("seen (front|behind|unknown) [0-9a-f]{16}")),
    ("H", re.compile("hoist( above)?( below)?")),
    ("F", re.compile("square|tails|long|shape[?]")),
    ("C", re.compile("[0-9a-f?]{4}")),
)
ENDINGS = ["SHFCCCC"] + ["C" * cells + rest for cells in range(5) for rest in ("", "FCCCC", "HFCCCC")]


def can_go_on(sorts):
    return any(WHOLE.fullmatch(sorts + ending) for ending in ENDINGS)


def sort_of(line):
    for sort, form in LINE_SORTS:
        if form.fullmatch(line):
            return sort
    return None


def judged(p):
    """What the document asks of judge, by a grammar over the sorts of lines."""
    if len(p) > 65536:
        return [-2]
    if not p:
        return [-8, 1, 0]
    *lines, rest = bytes(p).decode("latin-1").split("\n")
    sorts = ""
    for number, line in enumerate(lines):
        sort = sort_of(line)
        if sort is None:
            return [-8, 1, number]
        sorts += sort
        if not can_go_on(sorts):
            return [-8, 2, number]
    if rest:
        return [-8, 1, len(lines)]
    return [sorts.count("H")] if WHOLE.fullmatch(sorts) else [-8, 2, len(lines)]


class OrdinaryPlates(unittest.TestCase):
    def test_one_to_four_hoists(self):
        for hoists in range(1, 5):
            self.assertEqual(judge(text(*plate_lines(*[1] * hoists))), [hoists])

    def test_one_to_eight_flags(self):
        for flags in range(1, 9):
            self.assertEqual(judge(text(*plate_lines(flags))), [1])
            self.assertEqual(judge(text(*plate_lines(flags, 9 - flags, flags))), [3])

    def test_the_largest_plate(self):
        self.assertEqual(judge(text(*plate_lines(8, 8, 8, 8))), [4])

    def test_each_side(self):
        for side in ("front", "behind", "unknown"):
            self.assertEqual(judge(text(*plate_lines(2, 1, side=side))), [2])

    def test_each_end_of_a_hoist(self):
        ends = ("", " above", " below", " above below")
        for end in ends:
            self.assertEqual(judge(text(SEEN, *hoist_lines(2, end))), [1])
        self.assertEqual(judge(text(SEEN, *[line for end in ends for line in hoist_lines(1, end)])), [4])

    def test_each_shape(self):
        for shape in ("square", "tails", "long", "shape?"):
            self.assertEqual(judge(text(SEEN, "hoist", *flag_lines(shape))), [1])

    def test_cells_not_made_out(self):
        for cells in (("????",) * 4, ("0?1?", "?a?f", "???9", "b???"), ("????", "0000", "ffff", "????")):
            self.assertEqual(judge(text(SEEN, "hoist", *flag_lines("shape?", cells))), [1])

    def test_each_class_in_the_light_and_in_the_cells(self):
        for sign in "0123456789abcdef":
            flag = flag_lines("long", (sign * 4,) * 4)
            self.assertEqual(judge(text("seen unknown " + sign * 16, "hoist", *flag)), [1])


class LinesThatAreNone(unittest.TestCase):
    def refused(self, lines, number):
        self.assertEqual(judge(text(*lines)), [-8, 1, number], lines)

    def test_line_0(self):
        for line in ("", " ", "seen", "seen front", "front 0123456789abcdef", "Seen front 0123456789abcdef",
                     "seen Front 0123456789abcdef", "seen back 0123456789abcdef", "seen  front 0123456789abcdef",
                     "seen front  0123456789abcdef", " seen front 0123456789abcdef",
                     "seen front 0123456789abcdef ", "seen front 0123456789abcde",
                     "seen front 0123456789abcdef0", "seen front 0123456789abcdeF",
                     "seen front 0123456789abcdeg", "seen front 0123456789abcde?",
                     "seen front 0123456789abcdef x", "seen\tfront 0123456789abcdef",
                     "seen front front 0123456789abcdef", "seen 0123456789abcdef front",
                     "sawn front 0123456789abcdef", "seen  0123456789abcdef"):
            self.refused([line, *hoist_lines()], 0)

    def test_a_hoists_line(self):
        for line in ("Hoist", "hoist ", " hoist", "hoists", "hois", "hoist  above", "hoist above ", "hoist over",
                     "hoist below above", "hoist above above", "hoist below below", "hoist above  below",
                     "hoist above below ", "hoistabove", "above", "below", "hoist 1", ""):
            self.refused([SEEN, line, *flag_lines()], 1)

    def test_a_flags_line(self):
        for line in ("Square", "square ", " square", "squares", "tail", "longer", "lon", "shape", "shape??", "?",
                     "square?", "sign A", ""):
            self.refused([SEEN, "hoist", line, "0000", "0000", "0000", "0000"], 2)

    def test_cells_lines(self):
        for line in ("", "012", "01234", "012g", "012A", "0 12", " 012", "012 ", "0.12", "012/", "012:", "012`",
                     "012@", "012\xff", "012\x00", "01\r2"):
            for place in range(4):
                cells = ["0000"] * 4
                cells[place] = line
                self.refused([SEEN, "hoist", "square", *cells], 3 + place)

    def test_each_byte_in_the_light_and_in_the_cells(self):
        for byte in set(range(256)) - {10}:
            light = text("seen front 012345678xabcdef", *hoist_lines())
            light[light.index(ord("x"))] = byte
            self.assertEqual(judge(light), [1] if byte in b"0123456789abcdef" else [-8, 1, 0])
            cells = text(SEEN, "hoist", "long", "0000", "0x00", "0000", "0000")
            cells[cells.index(ord("x"))] = byte
            self.assertEqual(judge(cells), [1] if byte in b"0123456789abcdef?" else [-8, 1, 4])

    def test_a_line_behind_a_whole_plate(self):
        self.refused([*plate_lines(1), ""], 7)
        self.refused([*plate_lines(1), "end"], 7)

    def test_no_bytes(self):
        self.assertEqual(judge([]), [-8, 1, 0])

    def test_an_empty_line_alone(self):
        self.assertEqual(judge([10]), [-8, 1, 0])

    def test_the_last_byte_10_missing(self):
        lines = plate_lines(1, 1)
        for many in range(1, len(lines) + 1):
            self.assertEqual(judge(text(*lines[:many])[:-1]), [-8, 1, many - 1])

    def test_a_missing_byte_10_goes_before_a_wrong_place(self):
        for line in ("hoist", "square", "0000", "????", "shape?"):
            self.assertEqual(judge(text(line)[:-1]), [-8, 1, 0])
        for line in ("0000", SEEN):
            self.assertEqual(judge(text(SEEN, "hoist", *flag_lines(), line)[:-1]), [-8, 1, 7])

    def test_a_carriage_return_is_no_end_of_a_line(self):
        self.assertEqual(judge([13 if byte == 10 else byte for byte in text(*plate_lines(1))]), [-8, 1, 0])


class LinesAtTheWrongPlace(unittest.TestCase):
    def refused(self, lines, number):
        self.assertEqual(judge(text(*lines)), [-8, 2, number], lines)

    def test_the_first_sort_elsewhere(self):
        whole = plate_lines(1, 2)
        for place in range(1, len(whole) + 1):
            self.refused(whole[:place] + [SEEN] + whole[place:], place)
        self.refused([SEEN, "seen unknown 0000000000000000", *hoist_lines()], 1)

    def test_another_line_at_line_0(self):
        for line in ("hoist", "hoist above below", "square", "shape?", "0000", "????"):
            self.refused([line, *plate_lines(1)], 0)
            self.refused([line], 0)

    def test_a_flags_line_without_a_hoist(self):
        self.refused([SEEN, *flag_lines()], 1)

    def test_a_flags_line_behind_a_flag_that_is_not_whole(self):
        for cells in range(4):
            self.refused([SEEN, "hoist", "tails", *["0000"] * cells, "long"], 3 + cells)
            self.refused([*plate_lines(2), "tails", *["0000"] * cells, "tails"], 13 + cells)

    def test_cells_lines(self):
        self.refused([SEEN, "0000", *hoist_lines()], 1)
        self.refused([SEEN, "hoist", "0000"], 2)
        self.refused([SEEN, *hoist_lines(), "0000"], 7)
        self.refused([SEEN, *hoist_lines(2), "????", "square"], 12)
        self.refused([SEEN, *hoist_lines(), "hoist below", "????"], 8)

    def test_a_hoists_line_behind_a_hoists_line(self):
        self.refused([SEEN, "hoist", "hoist", *flag_lines()], 2)
        self.refused([SEEN, *hoist_lines(), "hoist", "hoist above"], 8)

    def test_a_hoists_line_behind_a_flag_that_is_not_whole(self):
        for cells in range(4):
            self.refused([SEEN, "hoist", "tails", *["0000"] * cells, "hoist"], 3 + cells)

    def test_a_ninth_flag(self):
        self.refused(plate_lines(9), 42)
        self.refused(plate_lines(8, 9), 83)
        self.refused(plate_lines(1, 9, 1), 48)

    def test_a_fifth_hoist(self):
        self.refused(plate_lines(1, 1, 1, 1, 1), 25)
        self.refused([*plate_lines(1, 1, 1, 8), "hoist"], 60)


class TextsThatEndTooEarly(unittest.TestCase):
    def refused(self, lines):
        self.assertEqual(judge(text(*lines)), [-8, 2, len(lines)], lines)

    def test_no_hoist(self):
        self.refused([SEEN])

    def test_a_last_hoist_without_a_flag(self):
        self.refused([SEEN, "hoist"])
        self.refused([*plate_lines(1, 8), "hoist above"])

    def test_a_flag_that_is_not_whole(self):
        for cells in range(4):
            self.refused([SEEN, "hoist", "square", *["????"] * cells])
            self.refused([*plate_lines(3), "square", *["????"] * cells])


class TheFirstWrongLine(unittest.TestCase):
    def test_of_two_wrong_lines_the_first_is_told(self):
        self.assertEqual(judge(text(SEEN, "nothing", SEEN)), [-8, 1, 1])
        self.assertEqual(judge(text(SEEN, SEEN, "nothing")), [-8, 2, 1])
        self.assertEqual(judge(text(SEEN, "hoist", "0000", "nothing")), [-8, 2, 2])
        self.assertEqual(judge(text("nothing", "nothing")), [-8, 1, 0])
        self.assertEqual(judge(text(SEEN, "0000") + text("hoist")[:-1]), [-8, 2, 1])

    def test_a_wrong_line_goes_before_the_early_end(self):
        self.assertEqual(judge(text(SEEN, "hoist", "square", "000")), [-8, 1, 3])

    def test_lines_past_nine_are_told_as_one_number(self):
        self.assertEqual(judge(text(*plate_lines(8, 8, 8, 8), "square")), [-8, 2, 165])


class LongTexts(unittest.TestCase):
    def test_just_the_most_bytes(self):
        whole = text(*plate_lines(1))
        self.assertEqual(judge(whole + [48] * (65536 - len(whole))), [-8, 1, 7])
        self.assertEqual(judge([10] * 65536), [-8, 1, 0])
        self.assertEqual(judge(whole + [10] * (65536 - len(whole))), [-8, 1, 7])

    def test_one_byte_more(self):
        self.assertEqual(judge([10] * 65537), [-2])
        self.assertEqual(judge([0] * 66000), [-2])
        whole = text(*plate_lines(1))
        self.assertEqual(judge(whole + [48] * (65537 - len(whole))), [-2])


class EveryChangeOfOneByte(unittest.TestCase):
    """The answer is the grammar's, whatever byte of a plate is changed, left out or added."""

    PLATE = text("seen behind 00112233aabbffff", "hoist above", "shape?", "0?af", "????", "9999", "1234",
                 "long", "0000", "1111", "2222", "3333", "hoist below", "tails", "0000", "????", "b00b", "0001")
    BYTES = [0, 10, 32, 47, 48, 57, 58, 63, 64, 97, 102, 103, 255]

    def same(self, p):
        self.assertEqual(judge(p), judged(p), bytes(p))

    def test_the_plate_itself(self):
        self.assertEqual(judge(self.PLATE), [2])
        self.same(self.PLATE)

    def test_changes(self):
        for place in range(len(self.PLATE)):
            before, behind = self.PLATE[:place], self.PLATE[place + 1:]
            self.same(before)
            self.same(before + behind)
            for byte in self.BYTES:
                self.same(before + [byte] + behind)
                self.same(before + [byte] + self.PLATE[place:])

    def test_lines_left_out_said_twice_or_moved(self):
        lines = bytes(self.PLATE).decode("ascii").split("\n")[:-1]
        for place in range(len(lines)):
            self.same(text(*lines[:place], *lines[place + 1:]))
            for line in lines:
                self.same(text(*lines[:place], line, *lines[place:]))
                self.same(text(*lines[:place], line, *lines[place + 1:]))


if __name__ == "__main__":
    unittest.main()
