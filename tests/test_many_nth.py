"""many and nth: points 3 and 4 of the calls, written out; what is in doubt; the refusals."""

import itertools
import time
import unittest

from halfseendesk.plates import draw, many, nth
from tests.samples import (
    A, B, BLOT, C, LIGHT_PLAIN, LIGHT_PLAIN_WORD, SAME_1, blotted, book, flag_lines, locker, many_signs, numbers_of,
    read_plainly, text, write_plainly,
)

SEEN = "seen front " + LIGHT_PLAIN_WORD
ROWS = ("A", "B", "C", "A.B", "A.C", "B.A", "C.C", "A.B.C", "C.A.B", "C.C.A", "C.C.C.C")
FLAG_A = flag_lines()
FLAG_B = flag_lines("tails", ("ffff", "0000", "ffff", "0000"))
FLAG_C = flag_lines("long", ("0011", "2233", "4455", "6677"))
HUGE = (2 ** 32, 2 ** 63, 2 ** 64 - 1)


class ReadingTests(unittest.TestCase):
    def readings(self, b, p, t=None):
        t = t or locker()
        answer = many(t, b, p)
        self.assertEqual((len(answer), answer[0]), (2, 0), answer)
        told = [nth(i, t, b, p) for i in range(answer[1])]
        for i in (answer[1], answer[1] + 1, *HUGE):
            self.assertEqual(nth(i, t, b, p), [-4])
        for numbers in told:
            self.assertEqual(numbers[0], len(numbers) - 1)
        return [numbers[1:] for numbers in told]

    def rows(self, *lines, side="front"):
        """The rows of the readings of a plate of one hoist, by the book of ROWS."""
        p = text(f"seen {side} {LIGHT_PLAIN_WORD}", *lines)
        return [ROWS[number] for number, in self.readings(book(*ROWS), p)]


class OneHoist(ReadingTests):
    def test_all_made_out(self):
        self.assertEqual(self.rows("hoist", *FLAG_A), ["A"])
        self.assertEqual(self.rows("hoist", *FLAG_B), ["B"])
        self.assertEqual(self.rows("hoist", *FLAG_A, *FLAG_B), ["A.B"])
        self.assertEqual(self.rows("hoist", *FLAG_C, *FLAG_C, *FLAG_A), ["C.C.A"])

    def test_no_entry_has_that_row(self):
        self.assertEqual(self.rows("hoist", *FLAG_B, *FLAG_C), [])
        self.assertEqual(self.rows("hoist", *FLAG_A, *FLAG_A, *FLAG_A, *FLAG_A, *FLAG_A), [])

    def test_nothing_made_out(self):
        self.assertEqual(self.rows("hoist", *BLOT), ["A", "B", "C"])
        self.assertEqual(self.rows("hoist", *BLOT * 2), ["A.B", "A.C", "B.A", "C.C"])
        self.assertEqual(self.rows("hoist", *BLOT * 4), ["C.C.C.C"])
        self.assertEqual(self.rows("hoist", *BLOT * 5), [])

    def test_a_shape_alone(self):
        self.assertEqual(self.rows("hoist", "square", *BLOT[1:]), ["A"])
        self.assertEqual(self.rows("hoist", "long", *BLOT[1:], *BLOT), ["C.C"])
        self.assertEqual(self.rows("hoist", *BLOT, "long", *BLOT[1:]), ["A.C", "C.C"])
        self.assertEqual(self.rows("hoist", *BLOT, "tails", *BLOT[1:]), ["A.B"])

    def test_each_cell_alone(self):
        looks = {"A": "0123456789abcdef", "B": "ffff0000ffff0000", "C": "0011223344556677"}
        for cell, sign in itertools.product(range(16), LIGHT_PLAIN_WORD):
            seen = "?" * cell + sign + "?" * (15 - cell)
            mirrored = cell - cell % 4 + 3 - cell % 4
            flag = ["shape?", seen[:4], seen[4:8], seen[8:12], seen[12:]]
            self.assertEqual(self.rows("hoist", *flag), [name for name in "ABC" if looks[name][cell] == sign])
            self.assertEqual(self.rows("hoist", *flag, side="behind"),
                             [name for name in "ABC" if looks[name][mirrored] == sign])
            self.assertEqual(self.rows("hoist", *flag, side="unknown"),
                             [name for name in "ABC" if sign in (looks[name][cell], looks[name][mirrored])])

    def test_a_shape_made_out_wrongly_is_no_reading(self):
        self.assertEqual(self.rows("hoist", "tails", *FLAG_A[1:]), [])
        self.assertEqual(self.rows("hoist", "shape?", *FLAG_A[1:]), ["A"])

    def test_classes_that_no_colour_has_in_that_light(self):
        p = text("seen front 0000000000000000", "hoist", "shape?", "1???", "????", "????", "????")
        self.assertEqual(self.readings(book(*ROWS), p), [])
        p = text("seen front 1111111111111111", "hoist", "shape?", "1111", "1111", "1111", "1111")
        self.assertEqual(self.readings(book(*ROWS), p), [[0], [1], [2]])

    def test_from_behind(self):
        behind = ["square", "3210", "7654", "ba98", "fedc"]
        self.assertEqual(self.rows("hoist", *behind, side="behind"), ["A"])
        self.assertEqual(self.rows("hoist", *behind), [])
        self.assertEqual(self.rows("hoist", *FLAG_A, side="behind"), [])
        self.assertEqual(self.rows("hoist", *behind, side="unknown"), ["A"])
        self.assertEqual(self.rows("hoist", *FLAG_A, side="unknown"), ["A"])


class CutOff(ReadingTests):
    def test_nothing_cut(self):
        self.assertEqual(self.rows("hoist", *FLAG_A), ["A"])
        self.assertEqual(self.rows("hoist", *FLAG_A, *BLOT), ["A.B", "A.C"])

    def test_above(self):
        self.assertEqual(self.rows("hoist above", *FLAG_A), ["A", "B.A", "C.C.A"])
        self.assertEqual(self.rows("hoist above", *BLOT, *FLAG_B), ["A.B", "C.A.B"])
        self.assertEqual(self.rows("hoist above", *FLAG_C), ["C", "A.C", "C.C", "A.B.C", "C.C.C.C"])

    def test_below(self):
        self.assertEqual(self.rows("hoist below", *FLAG_A), ["A", "A.B", "A.C", "A.B.C"])
        self.assertEqual(self.rows("hoist below", *FLAG_C, *BLOT), ["C.C", "C.A.B", "C.C.A", "C.C.C.C"])

    def test_above_and_below(self):
        self.assertEqual(self.rows("hoist above below", *FLAG_A),
                         ["A", "A.B", "A.C", "B.A", "A.B.C", "C.A.B", "C.C.A"])
        self.assertEqual(self.rows("hoist above below", *FLAG_A, *FLAG_B), ["A.B", "A.B.C", "C.A.B"])
        self.assertEqual(self.rows("hoist above below", *FLAG_C, *BLOT, *FLAG_C), ["C.C.C.C"])
        self.assertEqual(self.rows("hoist above below", *BLOT * 3), ["A.B.C", "C.A.B", "C.C.A", "C.C.C.C"])

    def test_a_flag_in_the_middle_of_eight(self):
        t = text("locker DESK", *many_signs(9))
        b = book("A.B.C.D.E.F.G.H", "B.C.D.E.F.G.H.I")
        places_of_ends = (("", ()), (" above", (7,)), (" below", (0,)), (" above below", range(8)))
        for sign, (ends, places) in itertools.product(range(9), places_of_ends):
            p = text(SEEN, "hoist" + ends, "square", "0000", "0000", "0000", "000" + str(sign))
            expected = [[entry] for entry in (0, 1) if sign - entry in places]
            self.assertEqual(self.readings(b, p, t), expected, (sign, ends))

    def test_a_longer_glimpse_than_any_entry(self):
        for ends in ("", " above", " below", " above below"):
            self.assertEqual(self.rows("hoist" + ends, *BLOT * 5), [])


class SeveralHoists(ReadingTests):
    def test_the_order_of_readings(self):
        self.assertEqual(self.readings(book("A", "C"), blotted(1, 1)), [[0, 0], [0, 1], [1, 0], [1, 1]])
        self.assertEqual(self.readings(book("A", "B", "C", "A.A", "A.C"), blotted(2, 1)),
                         [[3, 0], [3, 1], [3, 2], [4, 0], [4, 1], [4, 2]])

    def test_entries_are_numbered_over_the_whole_book(self):
        self.assertEqual(self.readings(book(*ROWS), blotted(4, 3, 1)), [
            [10, 7, 0], [10, 7, 2], [10, 8, 0], [10, 8, 2], [10, 9, 0], [10, 9, 1], [10, 9, 2]])

    def test_the_same_entry_several_times(self):
        self.assertEqual(self.readings(book("A"), blotted(1, 1, 1)), [[0, 0, 0]])
        self.assertEqual(self.readings(book("A"), blotted(1, 1, 1, 1)), [])

    def test_rows_that_no_display_shows_together(self):
        self.assertEqual(self.readings(book("A", "B"), blotted(1, 1)), [[0, 0], [0, 1], [1, 0]])
        self.assertEqual(self.readings(book("B", "B.B"), blotted(1, 2)), [])
        self.assertEqual(self.readings(book("C.C.C.C.C.C.C.C"), blotted(8, 8)), [])

    def test_what_one_hoist_tells_of_another(self):
        p = draw(LIGHT_PLAIN, 0, locker(), numbers_of([[A, A, SAME_1], [A]]))[1:]
        side, light, glimpses = read_plainly(p)
        for flags in glimpses[1][2], [("shape?", "?" * 16)]:
            seen = write_plainly(side, light, [glimpses[0], (False, False, flags)])
            self.assertEqual(self.readings(book("A", "C", "A.A.A"), seen), [[2, 0]])

    def test_four_hoists(self):
        p = draw(LIGHT_PLAIN, 1, locker(), numbers_of([[C], [A, B], [C, C], [A]]))[1:]
        self.assertEqual(self.readings(book(*ROWS), p), [[2, 3, 6, 0]])

    def test_each_hoist_has_its_own_ends(self):
        b = book("A", "C", "A.C", "C.A")
        p = text(SEEN, "hoist above", *FLAG_A, "hoist", *FLAG_A)
        self.assertEqual(self.readings(b, p), [[0, 0], [3, 0]])
        p = text(SEEN, "hoist", *FLAG_A, "hoist below", *FLAG_A)
        self.assertEqual(self.readings(b, p), [[0, 0], [0, 2]])
        p = text(SEEN, "hoist above", *FLAG_A, "hoist below", *FLAG_A)
        self.assertEqual(self.readings(b, p), [[0, 0], [0, 2], [3, 0], [3, 2]])


class TheSide(ReadingTests):
    """Signs A and B are each the other one from behind, and C looks the same from both sides."""

    LOCKER = text("locker DESK", "sign A 4 square 0001000000000000", "sign B 4 square 1000000000000000",
                  "sign C 4 square 1001000000000000")
    BOOK = book("A", "B", "C")
    A_FRONT = ["square", "0001", "0000", "0000", "0000"]
    B_FRONT = ["square", "1000", "0000", "0000", "0000"]

    def told(self, side, *flags):
        p = [f"seen {side} {LIGHT_PLAIN_WORD}"]
        for flag in flags:
            p += ["hoist", *flag]
        return self.readings(self.BOOK, text(*p), self.LOCKER)

    def test_one_hoist(self):
        self.assertEqual(self.told("front", self.A_FRONT), [[0]])
        self.assertEqual(self.told("behind", self.A_FRONT), [[1]])
        self.assertEqual(self.told("unknown", self.A_FRONT), [[0], [1]])

    def test_one_side_for_all_hoists(self):
        self.assertEqual(self.told("unknown", self.A_FRONT, self.A_FRONT), [[0, 0], [1, 1]])
        self.assertEqual(self.told("unknown", self.A_FRONT, self.B_FRONT), [[0, 1], [1, 0]])
        self.assertEqual(self.told("unknown", self.A_FRONT, self.B_FRONT, self.A_FRONT, self.A_FRONT),
                         [[0, 1, 0, 0], [1, 0, 1, 1]])
        self.assertEqual(self.told("unknown", self.A_FRONT, BLOT),
                         [[0, 0], [0, 1], [0, 2], [1, 0], [1, 1], [1, 2]])

    def test_one_side_for_all_flags(self):
        p = text("seen unknown " + LIGHT_PLAIN_WORD, "hoist", *self.A_FRONT, *self.B_FRONT)
        b = book("A.A", "A.B", "B.A", "B.B")
        self.assertEqual(self.readings(b, p, self.LOCKER), [[1], [2]])

    def test_a_reading_from_both_sides_is_told_once(self):
        self.assertEqual(self.told("unknown", ["square", "1001", "0000", "0000", "0000"]), [[2]])
        self.assertEqual(self.told("unknown", BLOT), [[0], [1], [2]])


class InDoubt(ReadingTests):
    LOCKER = text("locker DESK", *many_signs(48, 8))
    NAMES = [line.split()[1] for line in many_signs(48)]

    def book_of(self, *lengths):
        """A book with so many entries of length 1, 2, .. each."""
        rows = []
        for length, entries in enumerate(lengths, start=1):
            last = itertools.islice(itertools.product(self.NAMES, repeat=min(length, 2)), entries)
            rows += [".".join(["A"] * (length - 2) + list(row)) for row in last]
        return book(*rows)

    def answered(self, entries, p, number):
        self.assertEqual(many(self.LOCKER, self.book_of(*entries), p), [0, number])
        self.assertEqual(nth(number, self.LOCKER, self.book_of(*entries), p), [-4])
        if number:
            self.assertGreater(nth(number - 1, self.LOCKER, self.book_of(*entries), p)[0], 0)

    def refused(self, entries, p):
        self.assertEqual(many(self.LOCKER, self.book_of(*entries), p), [-7])
        for i in (0, *HUGE):
            self.assertEqual(nth(i, self.LOCKER, self.book_of(*entries), p), [-7])

    def test_one_hoist(self):
        self.answered((48, 1024), blotted(2), 1024)
        self.refused((48, 1025), blotted(2))
        self.answered((48, 1025), blotted(1), 48)
        self.answered((48, 2000), blotted(3), 0)

    def test_the_product(self):
        self.answered((32,), blotted(1, 1), 1024)
        self.refused((33,), blotted(1, 1))
        self.refused((25, 41), blotted(1, 2))
        self.answered((16, 64), blotted(2, 1), 1024)
        self.answered((4, 8), blotted(1, 1, 2, 2), 1024)
        self.refused((6,), blotted(1, 1, 1, 1))
        self.answered((5,), blotted(1, 1, 1, 1), 625)
        self.answered((1, 1024), blotted(1, 2, 1), 1024)

    def test_where_some_may_hang_above_or_below(self):
        for ends in (" above", " below", " above below"):
            self.answered((20, 1000, 4), blotted((1, ends)), 1024)
            self.refused((20, 1000, 5), blotted((1, ends)))
            self.refused((20, 1000, 4, 1), blotted((1, ends)))
            self.answered((20, 1000, 5), blotted((2, ends)), 1005)
            self.answered((20, 1000, 5), blotted((3, ends)), 5)
            self.answered((20, 1000, 5), blotted((4, ends)), 0)
            self.answered((20, 12), blotted((1, ends), (1, ends)), 1024)
            self.refused((20, 13), blotted((1, ends), (1, ends)))
            self.answered((20, 13), blotted((1, ends), 1), 33 * 20)
            self.answered((20, 31, 20), blotted(1, (2, ends)), 1020)
            self.refused((20, 31, 21), blotted(1, (2, ends)))

    def test_what_was_made_out_does_not_count(self):
        flag = ["square", "0000", "0000", "0000", "0000"]
        self.assertEqual(many(self.LOCKER, self.book_of(33), text(SEEN, "hoist", *flag, "hoist", *flag)), [-7])
        self.answered((32,), text(SEEN, "hoist", *flag, "hoist", *flag), 1)

    def test_the_side_does_not_count(self):
        self.answered((32,), blotted(1, 1, side="unknown"), 1024)
        self.answered((32,), blotted(1, 1, side="behind"), 1024)

    def test_rows_that_no_display_shows_count(self):
        t = text("locker DESK", *many_signs(48))
        self.assertEqual(many(t, book(*self.NAMES[:32]), blotted(1, 1)), [0, 32 * 31])
        self.assertEqual(many(t, book(*self.NAMES[:33]), blotted(1, 1)), [-7])

    def test_a_glimpse_with_no_entry_of_its_length(self):
        self.answered((48, 2000), blotted(3, 2, 2, 2), 0)
        self.answered((48, 2000), blotted(2, 2, 2, 3), 0)
        self.answered((48, 2000), blotted((1, " above below"), (1, " above"), (1, " below"), 8), 0)
        self.answered((0, 2000), blotted(2, 1, 2), 0)


class Refusals(unittest.TestCase):
    """Each call with every choice of faults: told is the one that stands first in the document."""

    LOCKERS = (("", locker()), ("-2", locker() + [10] * 65536), ("-6", text("locker DESK")), ("-6", []))
    BOOKS = (("", book("A", "C", "A.A", "A.C", "C.A", "C.C")), ("-2", [65] * 65537),
             ("-9", book("D")), ("-9", []), ("-9", [10] * 65536))
    PLATES = (("", blotted(1, 2)), ("-2", blotted(1) + [10] * 65536), ("-8", blotted(1)[:-1]), ("-8", []),
              ("-8", [10] * 65536), ("-7", blotted(*[(1, " above")] * 4)))
    ORDER = ("-2", "-6", "-9", "-8", "-7", "-4")

    def expected(self, *faults):
        for refusal in self.ORDER:
            if refusal in faults:
                return [int(refusal)]
        return None

    def test_the_order(self):
        for locker_, book_, plate in itertools.product(self.LOCKERS, self.BOOKS, self.PLATES):
            arguments = (locker_[1], book_[1], plate[1])
            expected = self.expected(locker_[0], book_[0], plate[0])
            self.assertEqual(many(*arguments), expected or [0, 8])
            for i in (0, 7):
                answer = nth(i, *arguments)
                self.assertEqual(answer[:1], expected or [2])
            for i in (8, 2 ** 64 - 1):
                self.assertEqual(nth(i, *arguments), expected or [-4])

    def test_just_the_most_bytes(self):
        fill = [10] * 65536
        good = (locker(), book("A"), blotted(1))
        for place, refusal in enumerate((-6, -9, -8)):
            arguments = list(good)
            arguments[place] = (good[place] + fill)[:65536]
            self.assertEqual(many(*arguments), [refusal])
            arguments[place] = (good[place] + fill)[:65537]
            self.assertEqual(many(*arguments), [-2])
            arguments[place] = [0] * 66000
            self.assertEqual(nth(0, *arguments), [-2])


class LargeInputs(unittest.TestCase):
    def within(self, seconds, call):
        start = time.monotonic()
        answer = call()
        self.assertLess(time.monotonic() - start, seconds)
        return answer

    def test_a_book_of_2048_entries_and_65536_bytes(self):
        t = text("locker DESK", *many_signs(48, 8))
        names = [line.split()[1] for line in many_signs(48)]
        rows = [".".join(row) for row in itertools.islice(itertools.product(names, repeat=2), 1024)]
        rows += [".".join(row) for row in itertools.islice(itertools.product("AB", repeat=8), 256)]
        rows = rows[:1024] + [f"{first}.{second}.C" for first in names[:24] for second in names[:32]] + rows[1024:]
        self.assertEqual(len(rows), 2048)
        entries = [row + " m" for row in rows]
        b = book(*entries)
        padding = (65536 - len(b)) // 2048
        b = book(*[entry + "m" * padding for entry in entries])
        self.assertTrue(65536 - 2048 < len(b) <= 65536)
        self.assertEqual(self.within(20, lambda: many(t, b, blotted(2, side="unknown"))), [0, 1024])
        self.assertEqual(self.within(20, lambda: nth(767, t, b, blotted(3))), [1, 1791])
        self.assertEqual(self.within(20, lambda: many(t, b, blotted((3, " above"), side="unknown"))), [0, 1024])

    def test_the_most_readings_with_many_sames(self):
        t = text("locker DESK", *many_signs(4, 8), *[f"same {k} 8 long {k:016x}" for k in range(1, 5)])
        rows = ["A.A.A.A.A.A.A.A", "A.A.A.A.A.A.B.A", "A.A.A.A.A.B.A.A", "A.A.A.B.A.A.A.A", "A.A.B.A.A.A.A.B"]
        number = self.within(20, lambda: many(t, book(*rows), blotted(8, 8, 8, 8, side="unknown")))
        self.assertEqual(number, [0, 625])


if __name__ == "__main__":
    unittest.main()
