"""draw's refusals: the order in which they are told, and showings that are none (-4)."""

import unittest

from halfseendesk.plates import draw, judge
from tests.samples import A, ANSWER, B, C, LIGHT_PLAIN, SAME_1, SAME_3, locker, text

TOO_LONG = locker() + [10] * (65537 - len(locker()))
NO_LOCKER = text("locker")
GOOD = [1, 1, A]
NO_SHOWING = [0]


class TheOrder(unittest.TestCase):
    def told(self, t, side, s):
        answer = draw(LIGHT_PLAIN, side, t, s)
        return answer if answer[0] < 0 else "drawn"

    def test_too_long_goes_before_all(self):
        for side in (0, 1, 2):
            for s in (GOOD, NO_SHOWING):
                self.assertEqual(self.told(TOO_LONG, side, s), [-2])
                self.assertEqual(self.told([0] * 66000, side, s), [-2])

    def test_no_locker_goes_before_side_and_showing(self):
        for side in (0, 1, 2):
            for s in (GOOD, NO_SHOWING):
                self.assertEqual(self.told(NO_LOCKER, side, s), [-6])
                self.assertEqual(self.told(TOO_LONG[:-1], side, s), [-6])

    def test_side_goes_before_the_showing(self):
        for side in (2, 3, 255, 256, 2 ** 63, 2 ** 64 - 1):
            for s in (GOOD, NO_SHOWING, [1, 1, ANSWER], []):
                self.assertEqual(self.told(locker(), side, s), [-1])

    def test_the_showing_is_last(self):
        for side in (0, 1):
            self.assertEqual(self.told(locker(), side, NO_SHOWING), [-4])
            self.assertEqual(self.told(locker(), side, GOOD), "drawn")


class Showings(unittest.TestCase):
    def taken(self, *s):
        for side in (0, 1):
            answer = draw(LIGHT_PLAIN, side, locker(), list(s))
            self.assertGreater(answer[0], 0, s)
            self.assertEqual(judge(answer[1:]), [s[0]])

    def refused(self, *s):
        for side in (0, 1):
            self.assertEqual(draw(LIGHT_PLAIN, side, locker(), list(s)), [-4], s)

    def test_numbers_missing(self):
        whole = [4, 2, A, B, 1, C, 3, C, C, SAME_1, 1, A]
        self.taken(*whole)
        for many in range(len(whole)):
            self.refused(*whole[:many])

    def test_numbers_left_over(self):
        for rest in ([0], [1], [1, A], [1, 1, A], [255], [0] * 60):
            self.refused(1, 1, A, *rest)
            self.refused(2, 1, A, 1, C, *rest[:55])

    def test_how_many_hoists(self):
        self.refused(0)
        self.refused(0, 1, A)
        self.taken(4, 1, C, 1, C, 1, C, 1, C)
        for many in (5, 6, 8):
            self.refused(many, *[1, C] * many)
        self.refused(255, *[1, C] * 31)

    def test_how_many_flags(self):
        self.refused(1, 0)
        self.refused(2, 0, 1, A)
        self.refused(2, 1, A, 0)
        self.taken(1, 8, *[C] * 8)
        self.refused(1, 9, *[C] * 8, A)
        self.refused(1, 9, *[C] * 6, A, A, B)
        self.refused(2, 1, A, 9, *[C] * 8, B)
        self.refused(1, 255, *[C] * 62)

    def test_a_flag_that_is_no_kind(self):
        for flag in (6, 7, 48, 64, 255):
            self.refused(1, 1, flag)
            self.refused(1, 3, A, B, flag)
            self.refused(2, 1, A, 2, flag, B)

    def test_a_same_whose_sign_is_not_there(self):
        self.refused(1, 1, SAME_1)
        self.refused(1, 2, SAME_1, A)
        self.refused(1, 1, SAME_3)
        self.refused(1, 2, A, SAME_3)
        self.refused(1, 3, A, B, SAME_3)
        self.refused(1, 3, A, SAME_1, SAME_3)
        self.taken(1, 4, A, B, C, SAME_3)
        self.taken(1, 4, A, SAME_1, SAME_1, SAME_3)
        self.taken(1, 5, A, B, C, SAME_3, SAME_1)

    def test_each_hoist_has_signs_of_its_own(self):
        self.refused(2, 1, A, 1, SAME_1)
        self.refused(2, 3, A, B, C, 2, C, SAME_3)
        self.refused(2, 1, SAME_1, 1, A)
        self.taken(2, 2, A, SAME_1, 2, C, SAME_1)

    def test_sames_of_each_number(self):
        for k in range(1, 5):
            t = text("locker L", "sign A 8 square 0000000000000000", f"same {k} 8 long 0000000000000000")
            for above in range(8):
                answer = draw(LIGHT_PLAIN, 0, t, [1, above + 1] + [0] * above + [1])
                self.assertEqual(answer[0] > 0, above >= k)
                self.assertEqual(answer == [-4], above < k)

    def test_the_answer_in_a_hoist(self):
        self.refused(1, 1, ANSWER)
        self.refused(1, 2, A, ANSWER)
        self.refused(1, 3, ANSWER, A, B)
        self.refused(1, 3, A, ANSWER, SAME_1)
        self.refused(2, 1, A, 1, ANSWER)
        self.refused(1, 5, A, B, C, A, ANSWER)

    def test_more_flags_than_copies_in_one_hoist(self):
        self.taken(1, 3, A, A, A)
        self.refused(1, 4, A, A, A, A)
        self.refused(1, 2, B, B)
        self.taken(1, 3, A, SAME_1, SAME_1)
        self.refused(1, 4, A, SAME_1, SAME_1, SAME_1)
        self.refused(1, 5, C, C, C, SAME_3, SAME_3)

    def test_more_flags_than_copies_over_all_hoists(self):
        self.taken(3, 1, A, 1, A, 1, A)
        self.refused(4, 1, A, 1, A, 1, A, 1, A)
        self.refused(2, 1, B, 1, B)
        self.refused(4, 1, A, 1, B, 1, C, 1, B)
        self.taken(2, 8, *[C] * 8, 1, A)
        self.refused(2, 8, *[C] * 8, 1, C)
        self.taken(2, 2, A, SAME_1, 2, A, SAME_1)
        self.refused(3, 2, A, SAME_1, 2, A, SAME_1, 2, A, SAME_1)
        self.refused(2, 4, C, C, C, SAME_3, 4, C, C, C, SAME_3)

    def test_a_locker_without_sames_or_answer(self):
        t = text("locker L", "sign A 1 square 0000000000000000")
        self.assertGreater(draw(LIGHT_PLAIN, 0, t, [1, 1, 0])[0], 0)
        self.assertEqual(draw(LIGHT_PLAIN, 0, t, [1, 1, 1]), [-4])


if __name__ == "__main__":
    unittest.main()
