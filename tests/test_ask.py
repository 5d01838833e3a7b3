"""ask: point 6 of the calls, and promise 6."""

import itertools
import time
import unittest

from halfseendesk.plates import ask, draw, many
from tests.samples import (
    BLOT, LIGHT_PLAIN, LIGHT_PLAIN_WORD, all_left, blot, blotted, book, face, kinds_of, locker, many_signs, numbers_of,
    plain_ask, plain_readings, read_plainly, showings, text,
)

# A and B are each the other one from behind; C looks the same from both sides, D like no other from any.
SIDES = text("locker DESK", "sign A 8 square 0001000000000000", "sign B 8 square 1000000000000000",
             "sign C 8 square 1001000000000000", "sign D 8 square 2222000000000001",
             "sign E 8 tails 1001000000000000")
A_FRONT = ["square", "0001", "0000", "0000", "0000"]
NO_LIGHT = "0000000000000000"


class AskTests(unittest.TestCase):
    def told(self, rows, p, t=SIDES):
        """The answer, which must be that of the plain search too."""
        answer = ask(t, book(*rows), p)
        self.assertEqual(answer, plain_ask(t, book(*rows), p))
        return answer


class FromAKnownSide(AskTests):
    def test_one_reading_alone(self):
        self.assertEqual(self.told(["A"], blotted(1)), [0, 0])
        self.assertEqual(self.told(["A", "A.C"], blotted(2)), [0, 0])
        self.assertEqual(self.told(["A"], blotted(1, 1, 1, 1)), [0, 0])
        self.assertEqual(self.told(["A", "B", "C"], text("seen front " + LIGHT_PLAIN_WORD, "hoist", *A_FRONT)), [0, 0])

    def test_one_flag_settles_it(self):
        self.assertEqual(self.told(["A", "C"], blotted(1)), [1, 1])
        self.assertEqual(self.told(["A", "B", "C", "D", "E"], blotted(1)), [1, 1])
        self.assertEqual(self.told(["A.A", "A.C"], blotted(2)), [1, 2])
        self.assertEqual(self.told(["A.A", "C.A"], blotted(2)), [1, 1])
        self.assertEqual(self.told(["C.C.A", "C.C.B", "C.C.D"], blotted(3)), [1, 4])
        self.assertEqual(self.told(["A.A.A.A.A.A.A.A", "A.A.A.A.A.A.A.C"], blotted(8)), [1, 128])

    def test_the_least_of_several_flags(self):
        self.assertEqual(self.told(["A.A", "C.C"], blotted(2)), [1, 1])
        self.assertEqual(self.told(["A.A.A", "A.C.C"], blotted(3)), [1, 2])
        self.assertEqual(self.told(["A.A.C", "A.B.A", "A.D.B"], blotted(3)), [1, 2])

    def test_only_several_flags_settle_it(self):
        self.assertEqual(self.told(["A.A", "A.C", "C.A", "C.C"], blotted(2)), [2, 3])
        self.assertEqual(self.told(["A.A.A", "A.A.C", "C.A.A"], blotted(3)), [2, 5])
        rows = [".".join(row) for row in itertools.product("AC", repeat=4)]
        self.assertEqual(self.told(rows, blotted(4)), [4, 15])

    def test_the_least_number_of_several_choices(self):
        self.assertEqual(self.told(["A.A.C", "A.C.A", "C.A.A"], blotted(3)), [2, 3])
        self.assertEqual(self.told(["A.A.A.C", "A.A.C.A", "A.C.A.A"], blotted(4)), [2, 6])
        # One of flags 0 and 1 and one of 2 and 3 settle it: of 5, 6, 9 and 10 the least.
        self.assertEqual(self.told(["A.A.A.A", "A.A.C.C", "C.C.A.A", "C.C.C.C"], blotted(4)), [2, 5])
        self.assertEqual(self.told(["A.A.A.A", "A.C.A.C", "C.A.C.A", "C.C.C.C"], blotted(4)), [2, 3])

    def test_fewer_flags_go_before_a_lesser_number(self):
        # Flag 2 alone tells all four apart; flags 0 and 1 do so together, and their number is 3.
        self.assertEqual(self.told(["A.A.A", "A.C.B", "C.A.C", "C.C.D"], blotted(3)), [1, 4])

    def test_bits_of_several_hoists(self):
        self.assertEqual(self.told(["A", "C"], blotted(1, 1)), [2, 1 + 256])
        self.assertEqual(self.told(["A", "C"], blotted(1, 1, 1)), [3, 1 + 256 + 65536])
        self.assertEqual(self.told(["A", "C"], blotted(1, 1, 1, 1)), [4, 1 + 256 + 65536 + 16777216])
        self.assertEqual(self.told(["A", "C.A", "C.C"], blotted(1, 2)), [1, 512])
        self.assertEqual(self.told(["A", "C.A", "C.C"], blotted(2, 1, 2)), [2, 2 + 131072])
        self.assertEqual(self.told(["B", "C.A.A.A.A.A.A.A", "C.A.A.A.A.A.A.C"], blotted(1, 1, 1, 8)), [1, 1 << 31])

    def test_a_hoist_tells_of_another(self):
        # Of each sign there is one copy: where one hoist is A, the other is B.
        t = text("locker DESK", "sign A 1 square 0000000000000000", "sign B 1 square 0000000000000001")
        self.assertEqual(self.told(["A", "B"], blotted(1, 1), t), [1, 1])

    def test_what_was_made_out_already(self):
        p = text("seen front " + LIGHT_PLAIN_WORD, "hoist", *A_FRONT, *BLOT)
        self.assertEqual(self.told(["A.A", "A.C", "C.A", "C.C"], p), [1, 2])

    def test_shapes_tell_apart_what_the_light_does_not(self):
        p = text("seen front " + NO_LIGHT, "hoist", *BLOT)
        self.assertEqual(self.told(["C", "E"], p), [1, 1])
        self.assertEqual(self.told(["A", "C"], p), [-10])

    def test_two_readings_of_one_look_from_one_side(self):
        p = text("seen behind 0122222222222222", "hoist", *BLOT)
        self.assertEqual(self.told(["A", "C"], p), [1, 1])
        p = text("seen behind 0000222222222222", "hoist", *BLOT)
        self.assertEqual(self.told(["A", "C"], p), [-10])
        p = text("seen front 0000222222222222", "hoist", *BLOT * 2)
        self.assertEqual(self.told(["A.C", "B.E", "E.B"], p), [2, 3])
        self.assertEqual(self.told(["A.C", "B.C", "E.B"], p), [-10])

    def test_sames_are_what_is_looked_at(self):
        # A.A is the sign twice; B.B is the sign and the same, which looks like none.
        self.assertEqual(self.told(["A.A", "B.B"], blotted(2), locker()), [1, 1])
        self.assertEqual(self.told(["B.B.A", "B.B.C"], blotted(3), locker()), [1, 4])
        t = text("locker DESK", "sign A 1 square 0000000000000000", "sign B 1 square 0000000000000001",
                 "same 1 1 long 0000000000000000")
        self.assertEqual(self.told(["A.A", "B.B"], blotted(2), t), [1, 1])
        # The second flag is the same for both: only the first tells.
        p = text("seen front " + LIGHT_PLAIN_WORD, "hoist", *BLOT, "long", "0000", "0000", "0000", "0000")
        self.assertEqual(self.told(["A.A", "A.B", "B.B"], p, t), [1, 1])


class FromAnUnknownSide(AskTests):
    def test_two_readings_that_look_the_same_from_different_sides(self):
        p = text("seen unknown " + LIGHT_PLAIN_WORD, "hoist", *A_FRONT)
        self.assertEqual(self.told(["A", "B"], p), [-10])
        self.assertEqual(self.told(["A", "B"], blotted(1, side="unknown")), [-10])
        self.assertEqual(self.told(["A", "B"], blotted(1)), [1, 1])
        self.assertEqual(self.told(["A", "B"], blotted(1, side="behind")), [1, 1])

    def test_a_reading_that_may_have_been_seen_from_both_sides(self):
        self.assertEqual(self.told(["A"], blotted(1, side="unknown")), [0, 0])
        self.assertEqual(self.told(["D"], blotted(1, side="unknown")), [0, 0])
        self.assertEqual(self.told(["A", "C"], blotted(1, side="unknown")), [1, 1])
        self.assertEqual(self.told(["A", "D"], blotted(1, side="unknown")), [1, 1])

    def test_another_flag_tells_the_side(self):
        # The first flag tells A from B from one side, the second from which side they are seen.
        self.assertEqual(self.told(["A.D", "B.D"], blotted(2, side="unknown")), [2, 3])
        self.assertEqual(self.told(["A.D", "B.D"], blotted(2)), [1, 1])
        self.assertEqual(self.told(["A.C", "B.C"], blotted(2, side="unknown")), [-10])
        self.assertEqual(self.told(["A", "B", "D.D"], blotted(2, 1, side="unknown")), [2, 1 + 256])

    def test_the_side_is_told_by_what_was_made_out(self):
        seen = ["square", "????", "????", "????", "1???"]
        p = text("seen unknown " + LIGHT_PLAIN_WORD, "hoist", *BLOT, *seen)
        self.assertEqual(self.told(["A.D", "B.D"], p), [1, 1])

    def test_one_side_for_all_hoists(self):
        # From whichever side: A A looks like B B, but not like A B.
        p = text("seen unknown " + LIGHT_PLAIN_WORD, "hoist", *A_FRONT, "hoist", *BLOT)
        self.assertEqual(self.told(["A", "B"], p), [-10])
        self.assertEqual(self.told(["A", "C.A", "C.C"], text("seen unknown " + LIGHT_PLAIN_WORD, "hoist", *A_FRONT,
                                                           "hoist", *BLOT * 2)), [1, 512])


class Refusals(AskTests):
    def test_something_may_hang_above_or_below(self):
        for ends in (" above", " below", " above below"):
            self.assertEqual(self.told(["A"], blotted((1, ends))), [-3])
            self.assertEqual(self.told(["A", "C"], blotted(1, (1, ends))), [-3])
            self.assertEqual(self.told(["A", "C"], blotted((1, ends), 1)), [-3])

    def test_no_reading(self):
        self.assertEqual(self.told(["A"], blotted(2)), [-5])
        self.assertEqual(self.told([], blotted(1)), [-5])
        self.assertEqual(self.told(["C"], text("seen front " + LIGHT_PLAIN_WORD, "hoist", *A_FRONT)), [-5])

    def test_12_flags_and_13(self):
        twelve = ["C.C.C.C", "A.A.A.A.A.A.A.A", "A.A.A.A.A.A.A.C"]
        self.assertEqual(self.told(twelve, blotted(4, 8)), [1, 1 << 15])
        self.assertEqual(self.told(twelve[:2], blotted(4, 8)), [0, 0])
        self.assertEqual(self.told(["A.B.C", "A.B.E"], blotted(3, 3, 3, 3)), [4, 0x04040404])
        thirteen = ["C.C.C.C.C", "A.A.A.A.A.A.A.A", "A.A.A.A.A.A.A.C"]
        self.assertEqual(self.told(thirteen, blotted(5, 8)), [-7])
        self.assertEqual(self.told(thirteen[:2], blotted(8, 5)), [-7])
        self.assertEqual(self.told(["A.B.C", "D.D.D.D"], blotted(3, 3, 3, 4)), [-7])
        t = text("locker DESK", *many_signs(4, 8))
        rows = [".".join(name * 8) for name in "ABCD"]
        p = draw(LIGHT_PLAIN, 0, t, numbers_of([[0] * 8, [1] * 8, [2] * 8, [3] * 8]))[1:]
        self.assertEqual(many(t, book(*rows), p), [0, 1])
        self.assertEqual(ask(t, book(*rows), p), [-7])

    def test_64_readings_and_65(self):
        t = text("locker DESK", *many_signs(13, 8))
        names = [chr(65 + number) for number in range(13)]
        pairs = [".".join(pair) for pair in itertools.product(names, repeat=2)]
        self.assertEqual(self.told(pairs[:64], blotted(2), t), [2, 3])
        self.assertEqual(self.told(pairs[:65], blotted(2), t), [-7])
        self.assertEqual(self.told(names[:8], blotted(1, 1), t), [2, 257])
        self.assertEqual(self.told(names[:9], blotted(1, 1), t), [-7])
        self.assertEqual(self.told(names[:13] + pairs[:5], blotted(1, 2), t), [-7])
        # It's the readings that count, not what is in doubt.
        p = text("seen front " + LIGHT_PLAIN_WORD, "hoist", "square", "0000", "0000", "0000", "0000", *BLOT)
        self.assertEqual(self.told(pairs, p, t), [1, 2])

    def test_not_even_all_flags_settle_it(self):
        self.assertEqual(self.told(["A", "C"], text("seen front " + NO_LIGHT, "hoist", *BLOT)), [-10])
        self.assertEqual(self.told(["A", "B", "D"], blotted(1, side="unknown")), [-10])

    def test_cut_off_goes_before_the_others(self):
        self.assertEqual(self.told(["A"], blotted((2, " above"))), [-3])
        self.assertEqual(self.told(["A.A.A", "A.A.A.A"], blotted(3, 3, 3, (4, " below"))), [-3])
        self.assertEqual(self.told([], blotted(8, (8, " below"))), [-3])
        t = text("locker DESK", *many_signs(48, 8))
        names = [line.split()[1] for line in many_signs(48)]
        self.assertEqual(ask(t, book(*names), blotted((1, " above"))), [-3])
        self.assertEqual(ask(t, book(*names[:32]), blotted(1, (1, " below"))), [-3])
        p = text("seen front " + NO_LIGHT, "hoist above", *BLOT)
        self.assertEqual(self.told(["A", "C"], p), [-3])

    def test_no_reading_goes_before_too_much(self):
        self.assertEqual(self.told(["A"], blotted(8, 8)), [-5])
        self.assertEqual(self.told([], blotted(4, 4, 4, 1)), [-5])

    def test_too_much_goes_before_never_settled(self):
        p = text("seen front " + NO_LIGHT, "hoist", *BLOT * 8, "hoist", *BLOT * 5)
        self.assertEqual(self.told(["A.A.A.A.A", "C.C.C.C.C.C.C.C", "D.C.C.C.C.C.C.C"], p), [-7])
        t = text("locker DESK", *many_signs(9, 8))
        p = text("seen front " + NO_LIGHT, "hoist", *BLOT, "hoist", *BLOT)
        self.assertEqual(self.told("ABCDEFGHI", p, t), [-7])
        self.assertEqual(self.told("ABCDEFGH", p, t), [-10])

    def test_what_all_calls_refuse_goes_before(self):
        lockers = ((None, locker()), (-2, [10] * 65537), (-6, text("locker DESK")))
        books = ((None, book("A", "C", "A.A", "A.C", "C.A", "C.C")), (-2, [65] * 65537), (-9, book("D")))
        plates = ((None, blotted(1, 2)), (-2, [10] * 65537), (-8, blotted(1)[:-1]), (-8, []),
                  (-7, blotted(*[(1, " above")] * 4)))
        for t, b, p in itertools.product(lockers, books, plates):
            refusals = [number for number in (-2, -6, -9, -8, -7) if number in (t[0], b[0], p[0])]
            self.assertEqual(ask(t[1], b[1], p[1]), refusals[:1] or [3, 1 + 256 + 512])

    def test_too_much_in_doubt_goes_before_cut_off_and_no_reading(self):
        t = text("locker DESK", *many_signs(33, 8))
        names = [line.split()[1] for line in many_signs(33)]
        self.assertEqual(ask(t, book(*names), blotted((1, " above"), 1)), [-7])
        p = text("seen front " + NO_LIGHT, "hoist", "tails", *BLOT[1:], "hoist", *BLOT)
        self.assertEqual(ask(t, book(*names), p), [-7])
        self.assertEqual(ask(t, book(*names[:32]), p), [-5])


class AgainstAPlainSearch(unittest.TestCase):
    def test_plates_of_all_sorts(self):
        answers = {}
        for chance, t, b, p, shown in showings(61, 500, copies=3):
            for how_much in (0, 0.7, 0.9, 1):
                less = blot(chance, p, how_much, cuts=False)
                answer = ask(t, b, less)
                self.assertEqual(answer, plain_ask(t, b, less))
                answers[answer[0]] = answers.get(answer[0], 0) + 1
        for kind, least in ((0, 100), (1, 50), (2, 30), (3, 20), (4, 10), (-10, 20)):
            self.assertGreater(answers[kind], least, answers)


class Promise6(unittest.TestCase):
    def left(self, t, b, p, choice):
        """The most readings that are left behind these flags, whatever was shown from whatever side."""
        most = 0
        for numbers, readings in all_left(t, b, p, choice):
            self.assertIn(numbers, readings)
            most = max(most, len(readings))
        return most

    def plates(self, seed, trials):
        for chance, t, b, p, shown in showings(seed, trials, copies=3):
            less = blot(chance, p, chance.choice([0.8, 0.95]), cuts=False)
            if 2 <= many(t, b, less)[1] <= 12:
                yield t, b, less

    def test_one_reading_is_left(self):
        tried = 0
        for t, b, p in self.plates(66, 300):
            answer = ask(t, b, p)
            if answer[0] >= 0:
                self.assertEqual(self.left(t, b, p, answer[1]), 1)
                self.assertEqual(bin(answer[1]).count("1"), answer[0])
                tried += 1
        self.assertGreater(tried, 20)

    def test_no_fewer_flags_do(self):
        tried = 0
        for t, b, p in self.plates(67, 120):
            number, told = ask(t, b, p)[0], ask(t, b, p)[-1]
            bits = [1 << 8 * j + place for j, glimpse in enumerate(read_plainly(p)[2])
                    for place in range(len(glimpse[2]))]
            for fewer in range(max(number, 0)):
                for choice in itertools.combinations(bits, fewer):
                    self.assertGreater(self.left(t, b, p, sum(choice)), 1)
            for choice in itertools.combinations(bits, max(number, 0)):
                if sum(choice) < told:
                    self.assertGreater(self.left(t, b, p, sum(choice)), 1)
            tried += number > 1
        self.assertGreater(tried, 5)

    def test_told_that_not_even_all_settle_it_two_look_the_same(self):
        tried = 0
        for t, b, p in self.plates(68, 600):
            if ask(t, b, p) == [-10]:
                light = read_plainly(p)[1]
                kinds = kinds_of(t)
                looks = [(numbers, [[face(kinds[flag], light, side) for flag in hoist] for hoist in hoists])
                         for numbers, hoists, sides in plain_readings(t, b, p) for side in sides]
                self.assertTrue(any(one[0] != other[0] and one[1] == other[1]
                                    for one, other in itertools.combinations(looks, 2)))
                self.assertGreater(self.left(t, b, p, 0xFFFFFFFF), 1)
                tried += 1
        self.assertGreater(tried, 10)


class LargeInputs(AskTests):
    def test_12_flags_and_64_readings(self):
        looks = ("0001000000000000", "2000000000000000", "1001000000000000", "3000000000000000")
        t = text("locker DESK", *[f"sign {name} 8 square {look}" for name, look in zip("ABCD", looks)])
        rows = [".".join(row) for row in itertools.islice(itertools.product("AB", repeat=4), 8)]
        rows += ["B.B.C." + ".".join(row) for row in itertools.islice(itertools.product("CD", repeat=5), 0, 32, 4)]
        start = time.monotonic()
        answer = ask(t, book(*rows), blotted(4, 8, side="unknown"))
        self.assertLess(time.monotonic() - start, 20)
        self.assertEqual(many(t, book(*rows), blotted(4, 8, side="unknown")), [0, 64])
        self.assertEqual(answer, [6, 2 + 4 + 8 + (8 + 16 + 32) * 256])

    def test_readings_that_differ_in_many_ways(self):
        t = text("locker DESK", *many_signs(8, 8))
        rows = [".".join("ABCDEFGH"[number * step % 8] for step in (1, 3, 5, 7, 2, 6, 4, 0)) for number in range(8)]
        fours = ["A.A.A.A", "A.B.C.D", "B.A.D.C", "B.B.A.A", "C.C.B.A", "D.A.A.B", "D.D.D.D", "E.F.G.H"]
        p = blotted(4, 8, side="unknown")
        start = time.monotonic()
        answer = ask(t, book(*fours, *rows), p)
        self.assertLess(time.monotonic() - start, 20)
        self.assertEqual(answer, plain_ask(t, book(*fours, *rows), p))


if __name__ == "__main__":
    unittest.main()
