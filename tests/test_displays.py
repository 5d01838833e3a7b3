"""The display told of rows: 'Hoists and rows' of the document, and that it is what is shown of entries."""

import itertools
import random
import unittest

from halfseendesk.displays import display_told
from halfseendesk.lockers import read_locker
from halfseendesk.plates import draw, many, nth
from tests.samples import (
    A, B, C, LIGHT_PLAIN, SAME_1, SAME_3, book, displays_of, kinds_of, locker, numbers_of, plain_display, text,
)


def told(t, rows):
    return display_told(read_locker(t).kinds, rows)


def desk(copies, sames):
    """A locker: the copies of the signs A, B, .., and of each same its number and its copies."""
    lines = [f"sign {chr(65 + number)} {have} square {number:016x}" for number, have in enumerate(copies)]
    lines += [f"same {which} {have} long {which:016x}" for which, have in sames]
    return text("locker DESK", *lines)


class WrittenOut(unittest.TestCase):
    def test_enough_copies(self):
        for rows in ([[A]], [[A, A, A]], [[A, B, C]], [[A], [A], [A]], [[C] * 8], [[A, C], [B], [C, A], [A]]):
            self.assertEqual(told(locker(), rows), rows)

    def test_one_hoist_with_sames(self):
        self.assertEqual(told(locker(), [[B, B]]), [[B, SAME_1]])
        self.assertEqual(told(locker(), [[B, B, B]]), [[B, SAME_1, SAME_1]])
        self.assertEqual(told(locker(), [[B, B, B, B]]), [[B, SAME_1, SAME_1, SAME_3]])
        self.assertIsNone(told(locker(), [[B, B, B, B, B]]))
        self.assertEqual(told(locker(), [[A, C, B, B]]), [[A, C, B, SAME_3]])
        self.assertIsNone(told(locker(), [[A, B, B]]))

    def test_the_sign_hangs_as_high_as_it_can(self):
        self.assertEqual(told(locker(), [[A, A, A, A]]), [[A, A, A, SAME_1]])
        self.assertEqual(told(locker(), [[A, A, A, A, A]]), [[A, A, A, SAME_1, SAME_1]])
        self.assertEqual(told(locker(), [[A, A, A, A, A, A]]), [[A, A, A, SAME_1, SAME_1, SAME_3]])

    def test_of_sames_the_lesser_number_first(self):
        t = desk([1], [(1, 2), (2, 2), (3, 1)])
        self.assertEqual(told(t, [[0, 0, 0]]), [[0, 1, 1]])
        self.assertEqual(told(t, [[0, 0, 0, 0]]), [[0, 1, 1, 2]])
        self.assertEqual(told(t, [[0] * 6]), [[0, 1, 1, 2, 2, 3]])
        self.assertIsNone(told(t, [[0] * 7]))

    def test_a_same_is_left_for_the_place_that_has_no_other(self):
        t = desk([1, 1], [(1, 1), (2, 1)])
        self.assertEqual(told(t, [[0, 1, 0, 1]]), [[0, 1, 2, 3]])
        # In both hoists the second place has same 1 alone: so the first one's third place takes same 2.
        t = desk([2], [(1, 2), (2, 1)])
        self.assertEqual(told(t, [[0, 0, 0], [0, 0]]), [[0, 1, 2], [0, 1]])
        t = desk([2], [(1, 3), (2, 1)])
        self.assertEqual(told(t, [[0, 0, 0], [0, 0]]), [[0, 1, 1], [0, 1]])

    def test_a_sign_is_not_hung_where_another_place_has_no_same(self):
        # Two places must be A itself: the first of each hoist; the second hoist's comes last.
        t = desk([2], [(1, 8)])
        self.assertEqual(told(t, [[0, 0, 0], [0]]), [[0, 1, 1], [0]])
        t = desk([3], [(1, 8)])
        self.assertEqual(told(t, [[0, 0, 0], [0]]), [[0, 0, 1], [0]])
        # Behind B the A can't be a same: of A's three places it's the second that gets one.
        t = desk([2, 1], [(1, 1)])
        self.assertEqual(told(t, [[0, 0], [1, 0]]), [[0, 2], [1, 0]])

    def test_one_hoist_takes_what_another_would_need(self):
        self.assertEqual(told(locker(), [[A, A], [A, A]]), [[A, A], [A, SAME_1]])
        self.assertEqual(told(locker(), [[A, A, A], [A, A]]), [[A, A, SAME_1], [A, SAME_1]])
        self.assertIsNone(told(locker(), [[A, A, A], [A, A, A], [A]]))
        self.assertIsNone(told(locker(), [[B], [B]]))
        self.assertIsNone(told(locker(), [[A], [A], [A], [A]]))
        self.assertEqual(told(locker(), [[B, B], [A] * 5]), [[B, SAME_1], [A, A, A, SAME_1, SAME_3]])
        self.assertIsNone(told(locker(), [[B, B], [A] * 6]))
        self.assertEqual(told(locker(), [[B, B], [A, A, A, A]]), [[B, SAME_1], [A, A, A, SAME_1]])

    def test_the_largest_rows(self):
        t = desk([8, 8, 8, 8], [])
        rows = [[0] * 8, [1] * 8, [2] * 8, [3] * 8]
        self.assertEqual(told(t, rows), rows)
        self.assertIsNone(told(t, [[0] * 8, [0]]))
        t = desk([8], [(1, 8), (2, 8), (3, 8), (4, 8)])
        hoists = told(t, [[0] * 8] * 4)
        self.assertEqual(hoists[0], [0, 0, 0, 0, 0, 1, 1, 1])
        self.assertEqual(sum(hoist.count(0) for hoist in hoists), 8)
        t = desk([1], [(1, 8)])
        self.assertEqual(told(t, [[0] * 8]), [[0] + [1] * 7])

    def test_the_rows_stay_as_they_were(self):
        rows = [[B, B], [A, A, A, A]]
        hoists = told(locker(), rows)
        self.assertEqual(rows, [[B, B], [A, A, A, A]])
        hoists[1].append(7)
        self.assertEqual(rows, [[B, B], [A, A, A, A]])


class AgainstAPlainSearch(unittest.TestCase):
    def same(self, t, rows):
        kinds = kinds_of(t)
        hoists = told(t, [list(row) for row in rows])
        self.assertEqual(hoists, plain_display(kinds, rows), (kinds, rows))
        return hoists

    def test_all_rows_of_small_lockers(self):
        for copies in itertools.product((1, 2), repeat=2):
            for sames in ((), ((1, 1),), ((2, 1),), ((1, 1), (2, 1)), ((1, 2), (3, 1)), ((2, 2), (3, 1))):
                t = desk(copies, sames)
                for length in range(1, 5):
                    for row in itertools.product((0, 1), repeat=length):
                        self.same(t, [row])
                for row, other in itertools.product(itertools.product((0, 1), repeat=3), repeat=2):
                    self.same(t, [row, other])

    def test_rows_and_lockers_of_all_sorts(self):
        chance = random.Random(5)
        hanging = {True: 0, False: 0, None: 0}
        for trial in range(2500):
            signs = chance.randint(1, 3)
            whiches = sorted(chance.sample(range(1, 5), chance.randint(0, 3)))
            sames = [(which, chance.randint(1, 2)) for which in whiches]
            t = desk([chance.randint(1, 3) for sign in range(signs)], sames)
            longest = chance.choice([(5,), (4, 4), (4, 4), (3, 3, 3), (2, 3, 2, 3)])
            rows = [[chance.randrange(signs) for place in range(chance.randint(1, most))] for most in longest]
            hoists = self.same(t, rows)
            hanging[hoists and hoists != rows] += 1
        self.assertGreater(min(hanging.values()), 200, hanging)

    def test_longer_hoists(self):
        chance = random.Random(6)
        for trial in range(60):
            t = desk([chance.randint(1, 2), chance.randint(1, 2)], ((1, 2), (chance.randint(2, 4), 2)))
            self.same(t, [[chance.randrange(2) for place in range(7)]])


class ShownOfEntries(unittest.TestCase):
    """Only the display told is what is seen of entries: no other one, though it shows the same rows."""

    def readings(self, t, b, hoists):
        p = draw(LIGHT_PLAIN, 0, t, numbers_of(hoists))[1:]
        number = many(t, b, p)[1]
        return [nth(i, t, b, p)[1:] for i in range(number)]

    def test_the_display_told_is_read_and_no_other(self):
        b = book("A", "B", "A.A", "B.B", "A.A.A", "A.A.A.A", "B.B.B.B")
        self.assertEqual(self.readings(locker(), b, [[A, A]]), [[2]])
        self.assertEqual(self.readings(locker(), b, [[A, SAME_1]]), [])
        self.assertEqual(self.readings(locker(), b, [[B, SAME_1]]), [[3]])
        self.assertEqual(self.readings(locker(), b, [[A, A, A, SAME_1]]), [[5]])
        self.assertEqual(self.readings(locker(), b, [[A, A, SAME_1, A]]), [])
        self.assertEqual(self.readings(locker(), b, [[A, A, A, SAME_3]]), [])
        self.assertEqual(self.readings(locker(), b, [[B, SAME_1, SAME_1, SAME_3]]), [[6]])

    def test_with_several_hoists(self):
        b = book("A", "A.A", "B.B", "A.A.A")
        self.assertEqual(self.readings(locker(), b, [[A, A], [A, SAME_1]]), [[1, 1]])
        self.assertEqual(self.readings(locker(), b, [[A, SAME_1], [A, A]]), [])
        self.assertEqual(self.readings(locker(), b, [[A, SAME_1], [A, SAME_1]]), [])
        self.assertEqual(self.readings(locker(), b, [[A, A, SAME_1], [A], [B, SAME_1]]), [[3, 0, 2]])

    def test_every_display_of_small_rows(self):
        chance = random.Random(7)
        b = book("A", "B", "A.A", "A.B", "B.A", "A.A.A", "A.B.A")
        rows = [(0,), (1,), (0, 0), (0, 1), (1, 0), (0, 0, 0), (0, 1, 0)]
        for copies, sames in (((1, 2), ((1, 2), (2, 1))), ((2, 1), ((1, 1), (2, 1))), ((2, 2), ((1, 2), (2, 2)))):
            t = desk(copies, sames)
            kinds = kinds_of(t)
            for numbers in [[n] for n in range(7)] + [chance.choices(range(7), k=2) for trial in range(30)]:
                display = plain_display(kinds, [rows[number] for number in numbers])
                for hoists in displays_of(kinds, [rows[number] for number in numbers]):
                    expected = [numbers] if [list(hoist) for hoist in hoists] == display else []
                    self.assertEqual(self.readings(t, b, hoists), expected)


if __name__ == "__main__":
    unittest.main()
