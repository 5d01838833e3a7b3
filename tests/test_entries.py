"""entries: point 5 of the calls, and promise 4."""

import itertools
import unittest

from halfseendesk.plates import draw, entries, many, nth
from tests.samples import (
    A, C, LIGHT_PLAIN, LIGHT_PLAIN_WORD, blot, blotted, book, flag_lines, locker, numbers_of, read_plainly, showings,
    text, told_readings,
)

ROWS = ("A", "B", "C", "A.B", "A.C", "B.A", "C.C", "A.B.C")
SEEN = "seen front " + LIGHT_PLAIN_WORD
HUGE = (100, 2 ** 32, 2 ** 63, 2 ** 64 - 1)


class WrittenOut(unittest.TestCase):
    def told(self, rows, p):
        """What is told of each hoist, and that nothing is told of a hoist behind the last."""
        hoists = len(read_plainly(p)[2])
        b = book(*rows)
        for j in (hoists, hoists + 1, *HUGE):
            self.assertEqual(entries(j, locker(), b, p), [-4])
        answers = [entries(j, locker(), b, p) for j in range(hoists)]
        for answer in answers:
            self.assertEqual(answer[0], len(answer) - 1)
        return [answer[1:] for answer in answers]

    def test_one_hoist(self):
        self.assertEqual(self.told(ROWS, text(SEEN, "hoist", *flag_lines())), [[0]])
        self.assertEqual(self.told(ROWS, text(SEEN, "hoist", *flag_lines("shape?", ["?" * 4] * 4))), [[0, 1, 2]])
        self.assertEqual(self.told(ROWS, text(SEEN, "hoist above", *flag_lines())), [[0, 5]])
        self.assertEqual(self.told(ROWS, text(SEEN, "hoist below", *flag_lines())), [[0, 3, 4, 7]])

    def test_several_hoists(self):
        self.assertEqual(entries(0, locker(), book(*ROWS), blotted(1, 2)), [3, 0, 1, 2])
        self.assertEqual(entries(1, locker(), book(*ROWS), blotted(1, 2)), [4, 3, 4, 5, 6])
        self.assertEqual(entries(2, locker(), book(*ROWS), blotted(1, 2)), [-4])
        p = draw(LIGHT_PLAIN, 1, locker(), numbers_of([[C], [A, C], [C, C], [A]]))[1:]
        self.assertEqual([entries(j, locker(), book(*ROWS), p) for j in range(5)],
                         [[1, 2], [1, 4], [1, 6], [1, 0], [-4]])

    def test_rising_and_each_once(self):
        # The readings are 0 0, 0 1, 1 0: both hoists have entry 0 in two of them.
        self.assertEqual(told_readings(locker(), book("A", "B"), blotted(1, 1)), [[0, 0], [0, 1], [1, 0]])
        for j in (0, 1):
            self.assertEqual(entries(j, locker(), book("A", "B"), blotted(1, 1)), [2, 0, 1])

    def test_only_what_some_reading_has(self):
        # B has one copy: where the second hoist is B, no other can be.
        p = text(SEEN, "hoist", *flag_lines("shape?", ["?" * 4] * 4), "hoist", "tails", *["????"] * 4)
        self.assertEqual(entries(0, locker(), book(*ROWS), p), [2, 0, 2])
        self.assertEqual(entries(1, locker(), book(*ROWS), p), [1, 1])

    def test_no_reading(self):
        for p in (blotted(8, 1), text(SEEN, "hoist", *flag_lines("tails"), "hoist", *flag_lines())):
            for j in (0, 1):
                self.assertEqual(entries(j, locker(), book(*ROWS), p), [0])
            for j in (2, *HUGE):
                self.assertEqual(entries(j, locker(), book(*ROWS), p), [-4])
        self.assertEqual(entries(0, locker(), book(), blotted(1)), [0])

    def test_four_hoists(self):
        self.assertEqual([entries(j, locker(), book("A", "C", "A.A"), blotted(1, 1, 1, 1)) for j in range(4)],
                         [[2, 0, 1]] * 4)
        self.assertEqual(entries(4, locker(), book("A", "C", "A.A"), blotted(1, 1, 1, 1)), [-4])


class Refusals(unittest.TestCase):
    LOCKERS = ((None, locker()), (-2, [10] * 65537), (-6, text("locker DESK")))
    BOOKS = ((None, book("A", "C", "A.A", "A.C", "C.A", "C.C")), (-2, [65] * 65537), (-9, book("D")))
    PLATES = ((None, blotted(1, 2)), (-2, [10] * 65537), (-8, blotted(1)[:-1]), (-7, blotted(*[(1, " above")] * 4)))

    def test_the_order(self):
        for t, b, p in itertools.product(self.LOCKERS, self.BOOKS, self.PLATES):
            refusals = [number for number in (-2, -6, -9, -8, -7) if number in (t[0], b[0], p[0])]
            for j, answer in ((0, [2, 0, 1]), (1, [4, 2, 3, 4, 5]), (2, [-4]), (4, [-4]), (2 ** 64 - 1, [-4])):
                self.assertEqual(entries(j, t[1], b[1], p[1]), refusals[:1] or answer)


class AgainstNth(unittest.TestCase):
    def test_each_hoist_of_plates_of_all_sorts(self):
        several = 0
        for chance, t, b, p, shown in showings(41, 150):
            for how_much in (0, 0.3, 0.7, 1):
                less = blot(chance, p, how_much)
                readings = [nth(i, t, b, less)[1:] for i in range(many(t, b, less)[1])]
                for j in range(len(shown)):
                    expected = sorted({numbers[j] for numbers in readings})
                    self.assertEqual(entries(j, t, b, less), [len(expected), *expected])
                    several += len(expected) > 1
                self.assertEqual(entries(len(shown), t, b, less), [-4])
        self.assertGreater(several, 100)


class Promise4(unittest.TestCase):
    def test_one_entry_alone_is_that_in_every_reading(self):
        alone = 0
        for chance, t, b, p, shown in showings(42, 200, copies=3):
            less = blot(chance, p, chance.choice([0.4, 0.6, 0.8]))
            readings = told_readings(t, b, less)
            for j, entry in enumerate(shown):
                answer = entries(j, t, b, less)
                self.assertIn(entry, answer[1:])
                if answer[0] == 1:
                    self.assertEqual({numbers[j] for numbers in readings}, {entry})
                    alone += len(readings) > 1
        self.assertGreater(alone, 10)


if __name__ == "__main__":
    unittest.main()
