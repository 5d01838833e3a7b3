"""says: point 7 of the calls; what rows tell by a book, one after another."""

import itertools
import unittest

from halfseendesk.plates import draw, many, nth, says
from tests.samples import (
    A, C, LIGHT_PLAIN, LIGHT_PLAIN_WORD, SAME_1, blot, blotted, book, flag_lines, locker, many_signs, numbers_of,
    plain_says, showings, text, with_meanings,
)

SEEN = "seen front " + LIGHT_PLAIN_WORD
BOOK = book("A come", "B spell", "C go away", "A.A two words", "A.C more", "C.C.C stay")
HUGE = (1025, 2 ** 32, 2 ** 63, 2 ** 64 - 1)
TELLS_NOTHING = "tells nothing"


class SaysTests(unittest.TestCase):
    def told(self, b, p, t=None):
        """What each reading says; and that there is none behind the last, however far."""
        t = t or locker()
        how_many = many(t, b, p)[1]
        for i in (how_many, how_many + 1, *HUGE):
            self.assertEqual(says(i, t, b, p), [-4])
        answers = [says(i, t, b, p) for i in range(how_many)]
        for answer in answers:
            self.assertTrue(answer == [-5] or answer[0] == len(answer) - 1, answer)
        return [TELLS_NOTHING if answer == [-5] else bytes(answer[1:]).decode("ascii") for answer in answers]


class WrittenOut(SaysTests):
    def test_one_hoist(self):
        self.assertEqual(self.told(BOOK, text(SEEN, "hoist", *flag_lines())), ["come"])
        self.assertEqual(self.told(BOOK, blotted(1)), ["come", TELLS_NOTHING, "go away"])
        self.assertEqual(self.told(BOOK, blotted(2)), ["two words", TELLS_NOTHING])
        self.assertEqual(self.told(BOOK, blotted(3)), ["stay"])

    def test_the_answer_as_it_stands(self):
        self.assertEqual(says(2, locker(), BOOK, blotted(1)), [7, 103, 111, 32, 97, 119, 97, 121])
        self.assertEqual(says(0, locker(), book("A ~"), blotted(1)), [1, 126])
        self.assertEqual(says(0, locker(), book("A ~", "A.A !"), blotted(2, 1)), [3, 33, 32, 126])

    def test_several_hoists(self):
        self.assertEqual(self.told(BOOK, blotted(3, 1)), ["stay come", TELLS_NOTHING, "stay go away"])
        p = draw(LIGHT_PLAIN, 1, locker(), numbers_of([[C], [A], [C, C, C], [A, A]]))[1:]
        self.assertEqual(self.told(BOOK, p), ["go away come stay two words"])

    def test_the_order_is_that_of_the_hoists(self):
        b = book("A upper", "C lower")
        self.assertEqual(self.told(b, blotted(1, 1)), ["upper upper", "upper lower", "lower upper", "lower lower"])

    def test_the_same_entry_several_times(self):
        self.assertEqual(self.told(book("C on"), blotted(1, 1)), ["on on"])
        self.assertEqual(self.told(book("C on and on"), blotted(1, 1, 1, 1)), ["on and on" + " on and on" * 3])

    def test_entries_of_one_meaning(self):
        self.assertEqual(self.told(book("A go", "C go", "A.A go"), blotted(1, 2)), ["go go", "go go"])

    def test_sames_do_not_count(self):
        p = draw(LIGHT_PLAIN, 0, locker(), numbers_of([[A, A, SAME_1], [A]]))[1:]
        self.assertEqual(self.told(book("A one", "A.A.A three"), p), ["three one"])

    def test_what_is_cut_off_is_told_too(self):
        p = text(SEEN, "hoist below", *flag_lines("long", ["????"] * 4))
        self.assertEqual(self.told(BOOK, p), ["go away", "stay"])

    def test_the_longest(self):
        meaning = "m" * 31 + " " + "n" * 32
        self.assertEqual(self.told(book("C " + meaning), blotted(1, 1, 1, 1)), [" ".join([meaning] * 4)])
        self.assertEqual(says(0, locker(), book("C " + meaning), blotted(1, 1, 1, 1))[0], 259)

    def test_all_bytes_of_a_meaning(self):
        for byte in range(33, 127):
            meaning = chr(byte) + " " + chr(byte) * 2
            self.assertEqual(self.told(book("A " + meaning), blotted(1, 1)), [meaning + " " + meaning])

    def test_entries_far_in_the_book(self):
        signs = many_signs(48, 8)
        names = [line.split()[1] for line in signs]
        rows = [".".join(row) for row in itertools.product(names[:32], repeat=2)]
        b = book(*[f"{name} {name} means" for name in names], *[f"{row} pair {row}" for row in rows])
        t = text("locker DESK", *signs)
        for i in (0, 1, 500, 1023):
            self.assertEqual(says(i, t, b, blotted(2)), [len(rows[i]) + 5, *f"pair {rows[i]}".encode()])
        self.assertEqual(says(1024, t, b, blotted(2)), [-4])
        self.assertEqual(says(47, t, b, blotted(1)), [9, *b"S47 means"])


class SpellAndMore(SaysTests):
    def test_as_the_first_a_middle_and_the_last_row(self):
        for word in ("spell", "more"):
            b = book("A come", "C go", "A.A " + word)
            self.assertEqual(self.told(b, blotted(2)), [TELLS_NOTHING])
            self.assertEqual(self.told(b, blotted(2, 1))[1:], [TELLS_NOTHING])
            for hoists in itertools.permutations([[A, A], [A], [C]]):
                p = draw(LIGHT_PLAIN, 0, locker(), numbers_of(hoists))[1:]
                self.assertEqual(self.told(b, p), [TELLS_NOTHING])
            for place in range(4):
                hoists = [[C]] * place + [[A, A]] + [[C]] * (3 - place)
                p = draw(LIGHT_PLAIN, 0, locker(), numbers_of(hoists))[1:]
                self.assertEqual(self.told(b, p), [TELLS_NOTHING])

    def test_all_rows(self):
        b = book("A spell", "C more")
        self.assertEqual(self.told(b, blotted(1, 1)), [TELLS_NOTHING] * 4)

    def test_only_these_words(self):
        for word in ("Spell", "SPELL", "spells", "spel", "respell", "spell spell", "spell more", "spell.", "more more",
                     "More", "mor", "mores", "nomore", "more spell", "s", "m", "lleps"):
            self.assertEqual(self.told(book("C " + word), blotted(1)), [word])
            self.assertEqual(self.told(book("C " + word), blotted(1, 1)), [word + " " + word])

    def test_two_meanings_that_make_one_of_these_words(self):
        self.assertEqual(self.told(book("A sp", "C ell"), blotted(1, 1))[1], "sp ell")

    def test_each_entry_that_means_so(self):
        b = book("A spell", "B more", "C spell", "A.A more", "C.C word")
        self.assertEqual(self.told(b, blotted(1)), [TELLS_NOTHING] * 3)
        self.assertEqual(self.told(b, blotted(2)), [TELLS_NOTHING, "word"])

    def test_an_entrys_own_meaning_goes_before_spelling(self):
        for word in ("spell", "more"):
            b = book("A " + word, "A.B ahoy", "A.C spell", "A.A.B more")
            self.assertEqual(self.told(b, blotted(2)), ["ahoy", TELLS_NOTHING])
            self.assertEqual(self.told(b, blotted(3)), [TELLS_NOTHING])
            self.assertEqual(self.told(b, blotted(2, 1)), [TELLS_NOTHING] * 2)

    def test_a_row_that_is_no_entrys_is_no_reading(self):
        b = book("A spell", "C more")
        for hoists in ([[A, C]], [[A, C], [C, C]], [[A], [A, A]]):
            p = draw(LIGHT_PLAIN, 0, locker(), numbers_of(hoists))[1:]
            self.assertEqual(self.told(b, p), [])


class Refusals(unittest.TestCase):
    """With every choice of faults: told is the one that stands first in the document."""

    LOCKERS = ((None, locker()), (-2, locker() + [10] * 65536), (-2, [0] * 66000), (-6, text("locker DESK")),
               (-6, []), (-6, locker()[:-1]))
    BOOKS = ((None, book("A come", "C spell", "A.A more", "A.C go on", "C.A", "C.C")), (-2, [65] * 65537),
             (-9, book("D")), (-9, BOOK[:-1]), (-9, book("A spell", of="OTHER")), (-9, []))
    PLATES = ((None, blotted(1, 2)), (-2, blotted(1) + [10] * 65536), (-8, blotted(1)[:-1]), (-8, []),
              (-7, blotted(*[(1, " above")] * 4)))
    ANSWERS = ((0, [-5]), (1, [10, *b"come go on"]), (2, [6, *b"come m"]), (4, [-5]), (7, [-5]), (8, [-4]), (9, [-4]),
               (1024, [-4]), (2 ** 64 - 1, [-4]))

    def test_the_order(self):
        for t, b, p in itertools.product(self.LOCKERS, self.BOOKS, self.PLATES):
            refusals = [number for number in (-2, -6, -9, -8, -7) if number in (t[0], b[0], p[0])]
            for i, answer in self.ANSWERS:
                self.assertEqual(says(i, t[1], b[1], p[1]), refusals[:1] or answer)

    def test_just_the_most_bytes(self):
        good = (locker(), BOOK, blotted(1))
        for place, refusal in enumerate((-6, -9, -8)):
            for i in (0, 1, 9):
                arguments = list(good)
                arguments[place] = (good[place] + [10] * 65536)[:65536]
                self.assertEqual(says(i, *arguments), [refusal])
                arguments[place] = arguments[place] + [10]
                self.assertEqual(says(i, *arguments), [-2])

    def test_just_the_most_in_doubt(self):
        t = text("locker DESK", *many_signs(33, 8))
        names = [line.split()[1] + " spell" for line in many_signs(33)]
        for i, answer in ((0, [-5]), (1023, [-5]), (1024, [-4]), (2 ** 64 - 1, [-4])):
            self.assertEqual(says(i, t, book(*names[:32]), blotted(1, 1)), answer)
            self.assertEqual(says(i, t, book(*names), blotted(1, 1)), [-7])

    def test_no_reading(self):
        for i in (0, 1, *HUGE):
            self.assertEqual(says(i, locker(), BOOK, blotted(8)), [-4])
            self.assertEqual(says(i, locker(), book(), blotted(1)), [-4])
            self.assertEqual(says(i, locker(), book("A spell", "A.A more"), blotted(1, 3)), [-4])
            self.assertEqual(says(i, locker(), book("B come"), blotted(1, 1)), [-4])
            self.assertEqual(says(i, locker(), BOOK, text(SEEN, "hoist", *flag_lines("tails"))), [-4])

    def test_no_such_reading_goes_before_nothing_told(self):
        b = book("A spell", "C more")
        self.assertEqual([says(i, locker(), b, blotted(1)) for i in range(4)], [[-5], [-5], [-4], [-4]])


class AgainstNth(unittest.TestCase):
    def test_plates_of_all_sorts(self):
        told, told_nothing = 0, 0
        for chance, t, b, p, shown in showings(71, 150):
            b = with_meanings(chance, b)
            for how_much in (0, 0.4, 0.8):
                less = blot(chance, p, how_much)
                number = many(t, b, less)[1]
                for i in range(number):
                    answer = says(i, t, b, less)
                    self.assertEqual(answer, plain_says(b, nth(i, t, b, less)[1:]))
                    told += answer != [-5]
                    told_nothing += answer == [-5]
                self.assertEqual(says(number, t, b, less), [-4])
        self.assertGreater(told, 300)
        self.assertGreater(told_nothing, 100)


if __name__ == "__main__":
    unittest.main()
