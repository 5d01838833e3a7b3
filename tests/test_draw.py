"""draw: point 2 of the calls, for showings that can be drawn."""

import unittest

from halfseendesk.plates import draw, judge
from tests.samples import (
    A, B, C, LIGHT_PLAIN, LOCKER_LINES, SAME_1, SAME_3, locker, numbers_of, text, written,
)

# In this light colours 0 and 1 look alike, 14 and 15 too, and no colour's class is its own number.
LIGHT_DIM = 0x77654321FEDCB022
LIGHT_DIM_WORD = "220bcdef12345677"


def drawn_by_words(light, side, hoists):
    """What the document asks of draw for the sample locker, told another way: by its lines' words."""
    light_word = "".join(reversed(f"{light:016x}"))
    lines = ["seen " + ("front", "behind")[side] + " " + light_word]
    for hoist in hoists:
        lines.append("hoist")
        for flag in hoist:
            shape, look = LOCKER_LINES[1 + flag].split()[-2:]
            seen = "".join(light_word[int(colour, 16)] for colour in look)
            rows = [seen[start:start + 4] for start in (0, 4, 8, 12)]
            lines += [shape] + [row[::-1] if side else row for row in rows]
    return lines


SHOWINGS = (
    [[A]],
    [[B]],
    [[C]],
    [[A, B]],
    [[B, A]],
    [[A, SAME_1]],
    [[A, SAME_1, SAME_1]],
    [[A, B, C, SAME_3]],
    [[A, B, SAME_1, SAME_3]],
    [[A, SAME_1, SAME_1, SAME_3]],
    [[C] * 8],
    [[C, C, C, SAME_3, SAME_1, SAME_1, A, B]],
    [[A], [A]],
    [[A, SAME_1], [C, SAME_1]],
    [[A], [B], [C]],
    [[A, A], [B, A], [C], [C, SAME_1]],
    [[C, C], [C, C], [C, C], [C, C]],
    [[C, C, C, C, C, C, C, C], [A, A, A, SAME_3, SAME_1], [B, SAME_1]],
)
LIGHTS = (LIGHT_PLAIN, LIGHT_DIM, 0, 2 ** 64 - 1, 1, 15 << 60, 0x0123456789ABCDEF)


class PlatesWrittenOut(unittest.TestCase):
    def drawn(self, light, side, numbers, lines):
        self.assertEqual(draw(light, side, locker(), numbers), [len(text(*lines))] + text(*lines))

    def test_one_flag_from_the_front(self):
        self.drawn(LIGHT_PLAIN, 0, [1, 1, A], [
            "seen front 0123456789abcdef", "hoist", "square", "0123", "4567", "89ab", "cdef"])

    def test_one_flag_from_behind(self):
        self.drawn(LIGHT_PLAIN, 1, [1, 1, A], [
            "seen behind 0123456789abcdef", "hoist", "square", "3210", "7654", "ba98", "fedc"])

    def test_a_light_that_changes_classes(self):
        self.drawn(LIGHT_DIM, 0, [1, 1, A], [
            "seen front " + LIGHT_DIM_WORD, "hoist", "square", "220b", "cdef", "1234", "5677"])
        self.drawn(LIGHT_DIM, 1, [1, 1, A], [
            "seen behind " + LIGHT_DIM_WORD, "hoist", "square", "b022", "fedc", "4321", "7765"])

    def test_no_light_at_all(self):
        self.drawn(0, 0, [1, 1, C], ["seen front 0000000000000000", "hoist", "long"] + ["0000"] * 4)

    def test_the_greatest_light(self):
        self.drawn(2 ** 64 - 1, 1, [1, 1, B], ["seen behind ffffffffffffffff", "hoist", "tails"] + ["ffff"] * 4)

    def test_colour_0_is_the_lowest_digit(self):
        self.drawn(5, 0, [1, 1, A], [
            "seen front 5000000000000000", "hoist", "square", "5000", "0000", "0000", "0000"])
        self.drawn(9 << 60, 0, [1, 1, A], [
            "seen front 0000000000000009", "hoist", "square", "0000", "0000", "0000", "0009"])

    def test_hoists_flags_shapes_and_sames(self):
        self.drawn(LIGHT_PLAIN, 1, [2, 3, C, B, SAME_1, 1, A], [
            "seen behind 0123456789abcdef",
            "hoist", "long", "1100", "3322", "5544", "7766", "tails", "ffff", "0000", "ffff", "0000",
            "square", "1111", "2222", "3333", "4444",
            "hoist", "square", "3210", "7654", "ba98", "fedc"])

    def test_a_same_out_of_a_same_above(self):
        self.drawn(LIGHT_PLAIN, 1, [1, 4, A, C, SAME_1, SAME_3], [
            "seen behind 0123456789abcdef", "hoist",
            "square", "3210", "7654", "ba98", "fedc", "long", "1100", "3322", "5544", "7766",
            "square", "1111", "2222", "3333", "4444", "tails", "ba98", "ba98", "ba98", "ba98"])

    def test_the_first_number_is_how_many_bytes_follow(self):
        self.assertEqual(draw(LIGHT_PLAIN, 0, locker(), [1, 1, A])[0], 28 + 6 + 7 + 4 * 5)
        self.assertEqual(draw(LIGHT_PLAIN, 1, locker(), [1, 1, B])[0], 29 + 6 + 6 + 4 * 5)
        self.assertEqual(draw(LIGHT_PLAIN, 0, locker(), [1, 2, C, C])[0], 28 + 6 + 2 * (5 + 4 * 5))


class EveryShowing(unittest.TestCase):
    def test_each_showing_in_each_light_from_each_side(self):
        for hoists in SHOWINGS:
            for light in LIGHTS:
                for side in (0, 1):
                    answer = draw(light, side, locker(), numbers_of(hoists))
                    self.assertEqual(written(answer), drawn_by_words(light, side, hoists))

    def test_what_is_drawn_is_a_plate(self):
        for hoists in SHOWINGS:
            for side in (0, 1):
                answer = draw(LIGHT_DIM, side, locker(), numbers_of(hoists))
                self.assertEqual(judge(answer[1:]), [len(hoists)])

    def test_the_largest_showing(self):
        many = text("locker L", *[f"sign S{n} 8 tails {n:016x}" for n in range(4)])
        answer = draw(LIGHT_PLAIN, 0, many, numbers_of([[n] * 8 for n in range(4)]))
        self.assertEqual(len(written(answer)), 165)
        self.assertEqual(judge(answer[1:]), [4])


if __name__ == "__main__":
    unittest.main()
