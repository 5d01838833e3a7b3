"""Promises 2, 3 and 5, as many and nth tell them: for showings of entries of all sorts, blotted in all ways."""

import unittest

from halfseendesk.plates import draw
from tests.samples import (
    blot, face, kinds_of, light_number, numbers_of, plain_readings, read_plainly, showings, told_readings,
)


class Promise2(unittest.TestCase):
    def test_what_was_shown_is_among_the_readings(self):
        for chance, t, b, p, entries in showings(21, 250):
            self.assertIn(entries, told_readings(t, b, p))
            for how_much in (0.1, 0.3, 0.6, 0.9, 1):
                self.assertIn(entries, told_readings(t, b, blot(chance, p, how_much)))
                self.assertIn(entries, told_readings(t, b, blot(chance, p, how_much, cuts=False)))

    def test_all_made_out_in_a_light_that_tells_all_kinds_apart(self):
        apart = 0
        for chance, t, b, p, entries in showings(22, 300):
            side, light, glimpses = read_plainly(p)
            faces = {face(kind, light, side) for kind in kinds_of(t)}
            if len(faces) == len(kinds_of(t)):
                apart += 1
                self.assertEqual(told_readings(t, b, p), [entries])
        self.assertGreater(apart, 100)


class Promise3(unittest.TestCase):
    def test_the_readings_are_those_of_a_plain_search(self):
        several = 0
        for chance, t, b, p, entries in showings(31, 250):
            for how_much in (0, 0.15, 0.5, 0.9):
                less = blot(chance, p, how_much)
                expected = [numbers for numbers, hoists, sides in plain_readings(t, b, less)]
                self.assertEqual(told_readings(t, b, less), expected)
                several += len(expected) > 1
        self.assertGreater(several, 200)

    def test_plates_of_nothing_that_was_shown(self):
        readings = 0
        for chance, t, b, p, entries in showings(32, 150):
            side, light, glimpses = read_plainly(p)
            text = bytes(p).decode().replace(light, light[::-1], 1).encode()
            less = blot(chance, list(text), 0.6)
            expected = [numbers for numbers, hoists, sides in plain_readings(t, b, less)]
            self.assertEqual(told_readings(t, b, less), expected)
            readings += expected == []
        self.assertGreater(readings, 20)

    def test_each_readings_own_plate_has_it_among_its_readings(self):
        for chance, t, b, p, entries in showings(33, 60):
            less = blot(chance, p, 0.4)
            for numbers, hoists, sides in plain_readings(t, b, less):
                for side in sides:
                    light = read_plainly(less)[1]
                    whole = draw(light_number(light), ("front", "behind").index(side), t, numbers_of(hoists))[1:]
                    self.assertIn(numbers, told_readings(t, b, whole))


class Promise5(unittest.TestCase):
    def test_more_made_out_no_more_readings(self):
        fewer = 0
        for chance, t, b, p, entries in showings(51, 200):
            before = told_readings(t, b, p)
            for step in range(5):
                p = blot(chance, p, 0.25)
                behind = told_readings(t, b, p)
                self.assertEqual([numbers for numbers in before if numbers not in behind], [])
                fewer += len(before) < len(behind)
                before = behind
        self.assertGreater(fewer, 100)


if __name__ == "__main__":
    unittest.main()
