"""Which texts are a book's for a locker: many answers for those, and -9 for all others."""

import itertools
import unittest

from halfseendesk.plates import many, nth
from tests.samples import (
    blotted, book, displays_of, kinds_of, locker, many_signs, text,
)

PLATE = blotted(8)


def rows_in_order(signs, length):
    return [".".join(row) for row in itertools.product(signs, repeat=length)]


class BookTests(unittest.TestCase):
    def taken_text(self, b, t=None):
        self.assertEqual(many(t or locker(), b, PLATE)[0], 0, bytes(b))

    def refused_text(self, b, t=None):
        self.assertEqual(many(t or locker(), b, PLATE), [-9], bytes(b))
        self.assertEqual(nth(0, t or locker(), b, PLATE), [-9], bytes(b))

    def taken(self, *lines):
        self.taken_text(text(*lines))

    def refused(self, *lines):
        self.refused_text(text(*lines))


class WholeTexts(BookTests):
    def test_books(self):
        self.taken("book BOOK", "for DESK", "A alpha", "B beta", "A.B both of them", "C.B.A the other way round")

    def test_a_book_of_no_entries(self):
        self.taken("book BOOK", "for DESK")
        self.assertEqual(many(locker(), book(), PLATE), [0, 0])
        self.assertEqual(many(locker(), book(), blotted((1, " above below"), 8)), [0, 0])

    def test_no_bytes_and_no_lines(self):
        for b in ([], [10], [0], [10, 10], text("book BOOK"), text("for DESK"), text("", "for DESK")):
            self.refused_text(b)

    def test_the_byte_10(self):
        whole = text("book BOOK", "for DESK", "A alpha", "B beta")
        self.taken_text(whole)
        self.refused_text(whole[:-1])
        self.refused_text(whole + [10])
        self.refused_text([10] + whole)
        self.refused_text(whole + [65])
        self.refused_text([13 if byte == 10 else byte for byte in whole])
        self.refused_text(text("book BOOK", "for DESK")[:-1])
        self.refused("book BOOK", "for DESK", "", "A alpha")
        self.refused("book BOOK", "", "for DESK", "A alpha")
        self.refused("book BOOK", "for DESK", "A alpha", "", "B beta")

    def test_lines_left_out_moved_or_said_twice(self):
        lines = ["book BOOK", "for DESK", "A alpha", "B beta"]
        for order in itertools.permutations(lines):
            if list(order) != lines:
                self.refused(*order)
        for place, line in enumerate(lines):
            self.refused(*lines[:place], line, line, *lines[place + 1:])
        self.refused(*lines[1:])
        self.refused(lines[0], *lines[2:])

    def test_each_byte_behind_a_book(self):
        whole = text("book BOOK", "for DESK", "A alpha")
        for byte in range(256):
            self.refused_text(whole + [byte])


class FirstLines(BookTests):
    def test_the_first_line(self):
        for line in ("", "book", "book ", " book BOOK", "book BOOK ", "book  BOOK", "Book BOOK", "BOOK BOOK",
                     "books BOOK", "book BOOK BOOK", "bookBOOK", "book\tBOOK", "locker BOOK", "for DESK", "book book",
                     "boo BOOK", "book ABCDEFGHI", "book A.B", "book A-B", "book \xc4", "BOOK", "book DESK x"):
            self.refused(line, "for DESK", "A alpha")

    def test_the_name_of_the_book(self):
        for name in ("A", "Z", "0", "9", "AZ09", "ABCDEFGH", "12345678", "DESK", "SPELL"):
            self.taken("book " + name, "for DESK", "A alpha")
        for byte in set(range(256)) - {10}:
            b = text("book BxK", "for DESK", "A alpha")
            b[b.index(ord("x"))] = byte
            if byte in b"ABCDEFGHIJKLMNOPQRSTUVWXYZ0123456789":
                self.taken_text(b)
            else:
                self.refused_text(b)

    def test_the_second_line(self):
        for line in ("", "for", "for ", " for DESK", "for DESK ", "for  DESK", "For DESK", "for desk", "for DESK DESK",
                     "forDESK", "for\tDESK", "four DESK", "book DESK", "locker DESK", "DESK", "for DESK x", "fo DESK"):
            self.refused("book BOOK", line, "A alpha")

    def test_another_lockers_name(self):
        for name in ("DES", "DESKS", "ESK", "DESC", "D", "BOOK", "KSED", "DESK1", "A"):
            self.refused("book BOOK", "for " + name, "A alpha")
            other = text("locker " + name, "sign A 1 square 0123456789abcdef")
            self.taken_text(text("book BOOK", "for " + name, "A alpha"), other)
            self.refused_text(text("book BOOK", "for DESK", "A alpha"), other)


class Entries(BookTests):
    def taken_entry(self, *lines):
        self.taken("book BOOK", "for DESK", *lines)

    def refused_entry(self, *lines):
        self.refused("book BOOK", "for DESK", *lines)

    def test_the_blank(self):
        for line in ("A", "A ", " A", " A alpha", "A  alpha", "Aalpha", "A\talpha", "A.alpha", "A. alpha", " ",
                     " alpha"):
            self.refused_entry(line)

    def test_the_names_of_the_row(self):
        self.taken_entry("A m", "B m", "C m")
        for name in ("D", "a", "AA", "1", "1.A", "A,B", "", "DESK", "A-B", "0", "same", "A1"):
            self.refused_entry(name + " m")
            self.refused_entry("A." + name + " m")
            self.refused_entry(name + ".A m")

    def test_the_full_stops(self):
        self.taken_entry("A.C m")
        self.taken_entry("A.C.A m")
        self.taken_entry("A .C m")
        for row in (".A", "A.", ".", "..", "A..C", "A.C.", ".A.C", "A.C..A", ". C", "A. C", "A:C", "AC", "A/C", "A-C"):
            self.refused_entry(row + " m")

    def test_names_of_several_bytes(self):
        t = text("locker DESK", "sign AB 8 square 0000000000000000", "sign A 8 square 0000000000000001",
                 "sign B 8 square 0000000000000002", "sign ABCDEFGH 8 square 0000000000000003")
        self.taken_text(book("AB", "A", "B", "ABCDEFGH", "AB.AB", "AB.A", "A.AB", "A.B", "B.ABCDEFGH"), t)
        for row in ("ABA", "BA", "ABCDEFG", "ABCDEFGHI", "AB.ABB", "A.BA", "ABCDEFGH.AB.C"):
            self.refused_text(book(row), t)

    def test_only_signs_have_names(self):
        self.refused_entry("1 m")
        self.refused_entry("A.1 m")
        self.refused_entry("A.same m")

    def test_one_to_eight_signs(self):
        for length in range(1, 9):
            self.taken_entry(".".join("C" * length) + " m")
            self.taken_entry(".".join("AC" * 4)[:2 * length - 1] + " m")
        t = text("locker DESK", *many_signs(9, 8), "same 1 8 long 0000000000000000")
        self.taken_text(book("A.B.C.D.E.F.G.H"), t)
        self.refused_text(book("A.B.C.D.E.F.G.H.I"), t)
        self.refused_text(book("A.A.A.A.A.A.A.A.A"), t)
        self.refused_text(book(".".join("A" * 16)), t)

    def test_how_long_a_meaning_is(self):
        for length in (1, 2, 63, 64):
            self.taken_entry("A " + "m" * length)
            self.taken_entry("A.C.A " + "m" * length)
        for length in (0, 65, 66, 128, 1000):
            self.refused_entry("A " + "m" * length)
        words = "m " * 32
        self.taken_entry("A " + words[:63])
        self.taken_entry("A m" + words[:63])
        self.refused_entry("A mm" + words[:63])

    def test_the_blanks_of_a_meaning(self):
        self.taken_entry("A m m")
        self.taken_entry("A m m m m")
        for meaning in (" ", "  ", " m", "m ", "m  m", "m m ", " m m", "m   m", "m m  m"):
            self.refused_entry("A " + meaning)

    def test_each_byte_in_a_meaning(self):
        for byte in range(256):
            for meaning in ("x", "xm", "mx", "mxm"):
                b = text("book BOOK", "for DESK", "A " + meaning)
                b[b.index(ord("x"))] = byte
                at_end = meaning != "mxm"
                if 33 <= byte <= 126 or byte == 32 and not at_end:
                    self.taken_text(b)
                else:
                    self.refused_text(b)

    def test_meanings_of_all_sorts(self):
        for meaning in ("spell", "more", "A", "A.B", "book BOOK", "for DESK", "?", "~", "!", ".", "A alpha", "hoist"):
            self.taken_entry("A " + meaning)
        self.taken_entry("A same", "B same", "C same")


class TheOrderOfRows(BookTests):
    ROWS = ["A", "B", "C", "A.A", "A.B", "A.C", "B.A", "B.C", "C.A", "C.B", "C.C", "A.A.A", "A.A.B", "A.B.A", "B.A.A",
            "C.C.C", "A.A.A.B", "C.C.C.C"]

    def test_all_together(self):
        self.taken_text(book(*self.ROWS))

    def test_two_and_two(self):
        for first, second in itertools.product(range(len(self.ROWS)), repeat=2):
            b = book(self.ROWS[first], self.ROWS[second])
            if first < second:
                self.taken_text(b)
            else:
                self.refused_text(b)

    def test_two_that_change_places_among_many(self):
        for place in range(len(self.ROWS) - 1):
            rows = list(self.ROWS)
            rows[place], rows[place + 1] = rows[place + 1], rows[place]
            self.refused_text(book(*rows))

    def test_two_entries_of_one_row(self):
        for row in self.ROWS:
            self.refused_text(book(row + " one", row + " two"))
        self.refused_text(book("A one", "B two", "B three", "C four"))

    def test_signs_go_by_their_numbers_not_by_their_names(self):
        t = text("locker DESK", "sign Z 2 square 0000000000000001", "sign AA 2 square 0000000000000000",
                 "sign M 2 square 0000000000000002")
        self.taken_text(book("Z", "AA", "M", "Z.Z", "Z.AA", "AA.Z", "M.Z"), t)
        self.refused_text(book("AA", "Z"), t)
        self.refused_text(book("Z.AA", "Z.Z"), t)
        self.refused_text(book("M", "AA"), t)

    def test_numbers_of_two_digits(self):
        t = text("locker DESK", *many_signs(12))
        self.taken_text(book("C", "K"), t)
        self.refused_text(book("K", "C"), t)


class RowsThatAHoistAloneShows(BookTests):
    def test_by_copies(self):
        for row in ("A.A.A", "B.A.C", "C.C.C.C.C.C.C.C", "A.C.A.C.A.B"):
            self.taken_text(book(row))

    def test_by_sames(self):
        self.taken_text(book("B.B"))
        self.taken_text(book("B.B.B"))
        self.taken_text(book("B.B.B.B"))
        self.refused_text(book("B.B.B.B.B"))
        self.taken_text(book("A.A.A.A.A.A"))
        self.refused_text(book("A.A.A.A.A.A.A"))

    def test_the_same_must_mean_that_sign(self):
        self.refused_text(book("A.B.B"))
        self.refused_text(book("C.C.B.A.A.A.A.A"))
        self.taken_text(book("A.C.B.B"))
        self.refused_text(book("A.C.B.B.B"))
        self.refused_text(book("C.B.C.B"))
        self.taken_text(book("B.C.C.B"))

    def test_without_sames(self):
        t = text("locker DESK", "sign A 2 square 0000000000000000", "answer 8 square 0000000000000001")
        self.taken_text(book("A", "A.A"), t)
        self.refused_text(book("A.A.A"), t)

    def test_the_sames_of_each_number(self):
        for which in range(1, 5):
            t = text("locker DESK", *many_signs(8), f"same {which} 1 long 0000000000000000")
            for length in range(2, 9):
                for again in range(length - 1):
                    row = [chr(65 + number) for number in range(length - 1)]
                    row.append(row[again])
                    if again == which - 1:
                        self.taken_text(book(".".join(row)), t)
                    else:
                        self.refused_text(book(".".join(row)), t)

    def test_one_entry_alone_that_no_hoist_shows(self):
        self.taken_text(book("A", "B", "A.B", "B.A"))
        self.refused_text(book("A", "B", "A.B", "B.A", "A.B.B"))
        self.refused_text(book("A", "B", "A.B", "A.B.B", "C.C.C"))

    def test_each_row_of_small_lockers(self):
        for copies, sames in (((1, 1), (1,)), ((1, 2), (2,)), ((1, 1), (1, 2)), ((2, 1), (3,)), ((1, 1), ())):
            lines = [f"sign {name} {n} square 000000000000000{n + 4 * (name == 'B')}" for name, n in zip("AB", copies)]
            lines += [f"same {which} 1 long 000000000000000{which}" for which in sames]
            t = text("locker DESK", *lines)
            for length in range(1, 6):
                for row in itertools.product((0, 1), repeat=length):
                    b = book(".".join("AB"[sign] for sign in row))
                    if any(True for display in displays_of(kinds_of(t), [row])):
                        self.taken_text(b, t)
                    else:
                        self.refused_text(b, t)


class HowManyEntries(BookTests):
    def test_2048_and_2049(self):
        t = text("locker DESK", *many_signs(13, 3))
        signs = [chr(65 + number) for number in range(13)]
        rows = rows_in_order(signs, 1) + rows_in_order(signs, 2) + rows_in_order(signs, 3)
        self.assertGreater(len(rows), 2049)
        for entries in (1, 2, 182, 2047, 2048):
            self.taken_text(book(*rows[:entries]), t)
            self.taken_text(book(*rows[-entries:]), t)
        self.refused_text(book(*rows[:2049]), t)
        self.refused_text(book(*rows[-2049:]), t)
        self.refused_text(book(*rows), t)

    def test_just_the_most_bytes(self):
        t = text("locker DESK", *many_signs(13, 3))
        rows = rows_in_order([chr(65 + number) for number in range(13)], 3)
        lines = [row + " " + "m" * 40 for row in rows]
        full = (65536 - len(book()) - 20) // len(text(lines[0]))
        left = 65536 - len(book(*lines[:full])) - len(text(rows[full] + " "))
        self.assertTrue(1 <= left <= 63, left)
        b = book(*lines[:full], rows[full] + " " + "m" * left)
        self.assertEqual(len(b), 65536)
        self.taken_text(b, t)
        self.assertEqual(many(t, book(*lines[:full], rows[full] + " " + "m" * (left + 1)), PLATE), [-2])

    def test_long_texts_that_are_no_books(self):
        for b in ([10] * 65536, [65] * 65536, [32] * 65536, [46] * 65536, (text("A m") * 16384)[:65536],
                  book() + text("A m") * 16000, book() + [65, 46] * 32000, book("A " + "m" * 60000)):
            self.refused_text(b)


if __name__ == "__main__":
    unittest.main()
