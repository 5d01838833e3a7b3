"""The promises 1 to 6 together: each drawn locker, book, showing and plate is put through all calls."""

import itertools
import unittest

from halfseendesk.plates import ask, entries, judge, many, nth, says
from tests.samples import (
    all_left, blot, face, kinds_of, plain_ask, plain_readings, plain_says, read_plainly, showings, told_readings,
    with_meanings, write_plainly,
)

FEW_READINGS = 8


class Together(unittest.TestCase):
    def drawn(self, seed, trials, cuts):
        """Showings by books of all sorts of meanings, each with its whole plate and some that tell less and less."""
        for chance, t, b, p, shown in showings(seed, trials, entries=6, copies=3):
            plates = [p]
            for how_much in (0.3, 0.3, 0.3, 1):
                plates.append(blot(chance, plates[-1], how_much, cuts))
            yield t, with_meanings(chance, b), shown, plates

    def plate_is_one(self, p, hoists):
        self.assertEqual(judge(p), [hoists])
        self.assertEqual(write_plainly(*read_plainly(p)), p)

    def readings_agree(self, t, b, p, shown):
        expected = [numbers for numbers, hoists, sides in plain_readings(t, b, p)]
        self.assertEqual(many(t, b, p), [0, len(expected)])
        self.assertEqual([nth(i, t, b, p) for i in range(len(expected))],
                         [[len(shown), *numbers] for numbers in expected])
        self.assertEqual(nth(len(expected), t, b, p), [-4])
        self.assertIn(shown, expected)
        return expected

    def alone_if_all_is_told_apart(self, t, p, shown, readings):
        side, light, glimpses = read_plainly(p)
        apart = len({face(kind, light, side) for kind in kinds_of(t)}) == len(kinds_of(t))
        if apart:
            self.assertEqual(readings, [shown])
        return apart

    def entries_agree(self, t, b, p, readings):
        for j in range(len(readings[0])):
            numbers = entries(j, t, b, p)
            self.assertEqual(numbers[1:], sorted({reading[j] for reading in readings}))
            self.assertEqual(numbers[0], len(numbers) - 1)
        self.assertEqual(entries(len(readings[0]), t, b, p), [-4])

    def says_agrees(self, t, b, p, readings):
        answers = [says(i, t, b, p) for i in range(len(readings))]
        self.assertEqual(answers, [plain_says(b, numbers) for numbers in readings])
        self.assertEqual(says(len(readings), t, b, p), [-4])
        return answers

    def test_all_but_ask(self):
        apart, fewer, told_nothing = 0, 0, 0
        for t, b, shown, plates in self.drawn(81, 100, cuts=True):
            before = self.readings_agree(t, b, plates[0], shown)
            apart += self.alone_if_all_is_told_apart(t, plates[0], shown, before)
            for p in plates:
                self.plate_is_one(p, len(shown))
                readings = self.readings_agree(t, b, p, shown)
                self.entries_agree(t, b, p, readings)
                told_nothing += [-5] in self.says_agrees(t, b, p, readings)
                self.assertEqual([numbers for numbers in before if numbers not in readings], [])
                fewer += len(before) < len(readings)
                before = readings
        self.assertGreater(apart, 20)
        self.assertGreater(fewer, 50)
        self.assertGreater(told_nothing, 50)

    def is_settled(self, t, b, p, choice):
        """Whether each reading, looked at again at these flags from the same side, is left alone."""
        settled = True
        for numbers, readings in all_left(t, b, p, choice):
            self.assertIn(numbers, readings)
            settled = settled and readings == [numbers]
        return settled

    def bits_of(self, p):
        return [1 << 8 * j + place for j, glimpse in enumerate(read_plainly(p)[2]) for place in range(len(glimpse[2]))]

    def asked_rightly(self, t, b, p, answer):
        bits = self.bits_of(p)
        if answer == [-10]:
            self.assertFalse(self.is_settled(t, b, p, sum(bits)))
            return
        self.assertTrue(self.is_settled(t, b, p, answer[1]))
        self.assertEqual(answer[0], len([bit for bit in bits if bit & answer[1]]))
        for number in range(answer[0]):
            for choice in itertools.combinations(bits, number):
                self.assertFalse(self.is_settled(t, b, p, sum(choice)))

    def test_with_ask(self):
        told = {}
        for t, b, shown, plates in self.drawn(82, 120, cuts=False):
            for p in plates:
                self.plate_is_one(p, len(shown))
                answer = ask(t, b, p)
                self.assertEqual(answer, plain_ask(t, b, p))
                readings = told_readings(t, b, p)
                self.assertIn(shown, readings)
                self.assertEqual(answer == [0, 0], len(readings) == 1)
                if len(readings) <= FEW_READINGS and answer != [-7]:
                    self.asked_rightly(t, b, p, answer)
                    told[answer[0]] = told.get(answer[0], 0) + 1
        for kind, least in ((0, 50), (1, 10), (2, 10), (-10, 3)):
            self.assertGreater(told.get(kind, 0), least, told)

    def test_where_something_is_cut_off(self):
        cut = 0
        for t, b, shown, plates in self.drawn(83, 60, cuts=True):
            for p in plates:
                answer = ask(t, b, p)
                if any(above or below for above, below, flags in read_plainly(p)[2]):
                    self.assertEqual(answer, [-3])
                    cut += 1
                else:
                    self.assertEqual(answer, plain_ask(t, b, p))
        self.assertGreater(cut, 50)


if __name__ == "__main__":
    unittest.main()
