"""Which texts are a locker's: draw answers for those, and -6 for all others."""

import unittest

from halfseendesk.plates import draw
from tests.samples import LIGHT_PLAIN, locker, many_signs, text

ONE = "sign A 1 square 0123456789abcdef"
TWO = "sign B 1 tails 0123456789abcdef"
SAMES = [f"same {k} 1 long 000000000000000{k}" for k in range(1, 5)]
ANSWER = "answer 1 tails 1111111111111111"


class LockerTests(unittest.TestCase):
    def taken_text(self, t):
        self.assertGreater(draw(LIGHT_PLAIN, 0, t, [1, 1, 0])[0], 0, bytes(t))

    def refused_text(self, t):
        self.assertEqual(draw(LIGHT_PLAIN, 0, t, [1, 1, 0]), [-6], bytes(t))

    def taken(self, *lines):
        self.taken_text(text(*lines))

    def refused(self, *lines):
        self.refused_text(text(*lines))


class WholeTexts(LockerTests):
    def test_lockers(self):
        self.taken_text(locker())
        self.taken("locker L", ONE)
        self.taken("locker L", ONE, TWO)
        self.taken("locker L", ONE, *SAMES)
        self.taken("locker L", ONE, ANSWER)
        self.taken("locker L", ONE, TWO, *SAMES, ANSWER)
        self.taken("locker L", *many_signs(48), *SAMES, ANSWER)

    def test_no_bytes_and_no_lines(self):
        self.refused_text([])
        self.refused_text([10])
        self.refused_text([0])

    def test_the_byte_10(self):
        whole = text("locker L", ONE, TWO)
        self.refused_text(whole[:-1])
        self.refused_text(whole + [10])
        self.refused_text([10] + whole)
        self.refused_text(whole + [32])
        self.refused("locker L", "", ONE)
        self.refused_text([13 if byte == 10 else byte for byte in whole])
        self.refused_text(text("locker L\r", ONE))
        self.refused_text(text("locker L")[:-1])

    def test_the_blanks(self):
        for line in ("locker L", ONE, SAMES[0], ANSWER):
            lines = ["locker L", ONE, SAMES[0], ANSWER]
            place = lines.index(line)
            words = line.split(" ")
            spoilt = [" " + line, line + " ", "".join(words), line.replace(" ", "\t")]
            spoilt += [" ".join(words[:n]) + "  " + " ".join(words[n:]) for n in range(1, len(words))]
            spoilt += [" ".join(words[:n]) + "".join(words[n:]) for n in range(1, len(words))]
            for other in spoilt:
                self.refused(*lines[:place], other, *lines[place + 1:])

    def test_the_first_line(self):
        for line in ("locker", "locker ", "locker L L", "Locker L", "lockers L", "book L", "L locker", "L", ""):
            self.refused(line, ONE)
        self.refused(ONE)
        self.refused(ONE, "locker L")
        self.refused("locker L", "locker L", ONE)
        self.refused("locker L", ONE, "locker L")

    def test_words_left_out_said_twice_or_added(self):
        for line in (ONE, SAMES[0], ANSWER):
            words = line.split(" ")
            for n in range(len(words)):
                self.refused("locker L", TWO, " ".join(words[:n] + words[n + 1:]))
                self.refused("locker L", TWO, " ".join(words[:n] + [words[n]] + words[n:]))
            self.refused("locker L", TWO, line + " x")

    def test_lines_that_begin_otherwise(self):
        for line in ("Sign A 1 square 0123456789abcdef", "flag A 1 square 0123456789abcdef", "sign", "same",
                     "answer", "", "answer A 1 square 0123456789abcdef", "sames 1 1 square 0123456789abcdef"):
            self.refused("locker L", TWO, line)


class Words(LockerTests):
    def test_names(self):
        for name in ("A", "Z", "0", "9", "ABCDEFGH", "12345678", "SIGN", "A1B2C3"):
            self.taken("locker " + name, ONE)
            self.taken("locker L", f"sign {name} 1 square 0123456789abcdef")
        for name in ("", "ABCDEFGHI", "a", "Ab", "A.", "A-B", "A?", "@", "[", "/", ":", "\xc4", "\x00"):
            self.refused("locker " + name, ONE)
            self.refused("locker L", f"sign {name} 1 square 0123456789abcdef")

    def test_each_byte_in_a_name(self):
        for byte in range(256):
            lockers = [text("locker L")[:-2] + [byte] + text("", ONE),
                       text("locker L", "sign AxB 1 square 0123456789abcdef")]
            lockers[1][lockers[1].index(ord("x"))] = byte
            for t in lockers:
                if byte in b"ABCDEFGHIJKLMNOPQRSTUVWXYZ0123456789":
                    self.taken_text(t)
                else:
                    self.refused_text(t)

    def test_different_names(self):
        self.refused("locker L", ONE, "sign A 1 tails 0123456789abcdef")
        self.refused("locker L", ONE, TWO, "sign C 1 long 0000000000000000", "sign B 2 long 0000000000000001")
        self.taken("locker L", ONE, "sign AA 1 tails 0123456789abcdef")
        self.taken("locker A", ONE, TWO)

    def test_copies(self):
        for line in ("sign A {} square 0123456789abcdef", "same 2 {} square 0123456789abcdef",
                     "answer {} square 0123456789abcdef"):
            for copies in "12345678":
                self.taken("locker L", TWO, line.format(copies))
            for copies in ("0", "9", "10", "01", "1 1", "a", "/", ":", "-1", "+1", "\xb2", ""):
                self.refused("locker L", TWO, line.format(copies))

    def test_the_number_of_a_same(self):
        for k in "1234":
            self.taken("locker L", TWO, f"same {k} 1 square 0123456789abcdef")
        for k in ("0", "5", "8", "9", "01", "11", "A", "/", "", "-1"):
            self.refused("locker L", TWO, f"same {k} 1 square 0123456789abcdef")

    def test_shapes(self):
        for shape in ("square", "tails", "long"):
            self.taken("locker L", f"sign A 1 {shape} 0123456789abcdef")
        for shape in ("Square", "tail", "longs", "shape?", "", "0", "round"):
            self.refused("locker L", f"sign A 1 {shape} 0123456789abcdef")

    def test_looks(self):
        for look in ("0000000000000000", "ffffffffffffffff", "fedcba9876543210"):
            self.taken("locker L", f"sign A 1 square {look}")
        for look in ("", "0", "012345678abcdef", "0123456789abcdef0", "0123456789abcdeF", "0123456789abcdeg",
                     "0123456789abcde?", "0123456789abcde/", "0123456789abcde:", "0123456789abcde`",
                     "0123456789abcde\xff", "0123456789 abcde"):
            self.refused("locker L", f"sign A 1 square {look}")

    def test_each_byte_in_a_look(self):
        for byte in range(256):
            t = text("locker L", "sign A 1 square 012345678xabcdef")
            t[t.index(ord("x"))] = byte
            if byte in b"0123456789abcdef":
                self.taken_text(t)
            else:
                self.refused_text(t)


class KindsTogether(LockerTests):
    def test_one_to_48_signs(self):
        for many in (1, 2, 47, 48):
            self.taken("locker L", *many_signs(many))
        self.refused("locker L", *many_signs(49))
        self.refused("locker L", *many_signs(49), *SAMES, ANSWER)
        self.refused("locker L")
        self.refused("locker L", *SAMES)
        self.refused("locker L", ANSWER)
        self.refused("locker L", *SAMES, ANSWER)

    def test_the_order_of_signs_sames_and_the_answer(self):
        self.refused("locker L", SAMES[0], ONE)
        self.refused("locker L", ONE, SAMES[0], TWO)
        self.refused("locker L", ANSWER, ONE)
        self.refused("locker L", ONE, ANSWER, TWO)
        self.refused("locker L", ONE, ANSWER, SAMES[0])
        self.refused("locker L", ONE, SAMES[0], ANSWER, SAMES[1])

    def test_signs_in_any_order_of_names(self):
        self.taken("locker L", TWO, ONE)

    def test_the_numbers_of_sames_rise(self):
        for first in range(4):
            for second in range(4):
                lines = [f"same {first + 1} 1 long 0000000000000000", f"same {second + 1} 1 long 1111111111111111"]
                if first < second:
                    self.taken("locker L", ONE, *lines)
                else:
                    self.refused("locker L", ONE, *lines)
        self.refused("locker L", ONE, SAMES[0], SAMES[2], SAMES[1])
        self.refused("locker L", ONE, *SAMES, "same 4 1 square 0000000000000000")

    def test_one_answer_or_none(self):
        self.refused("locker L", ONE, ANSWER, "answer 1 square 1111111111111111")
        self.refused("locker L", ONE, ANSWER, ANSWER)

    def test_no_two_kinds_of_one_shape_and_look(self):
        lines = ["sign A 1 {} {}", "sign B 2 {} {}", "same 1 3 {} {}", "same 2 4 {} {}", "answer 5 {} {}"]
        faces = [("long", f"{n:016x}") for n in range(5)]
        for first in range(5):
            for second in range(first):
                same = list(faces)
                same[first] = same[second]
                self.refused("locker L", *[line.format(*face) for line, face in zip(lines, same)])
                same[first] = ("tails", same[second][1])
                self.taken("locker L", *[line.format(*face) for line, face in zip(lines, same)])

    def test_looks_that_differ_in_one_cell(self):
        for cell in range(16):
            look = ["0"] * 16
            look[cell] = "1"
            self.taken("locker L", "sign A 1 long 0000000000000000", "sign B 1 long " + "".join(look))


class LongTexts(LockerTests):
    def test_just_the_most_bytes(self):
        whole = locker()
        self.refused_text(whole + [10] * (65536 - len(whole)))
        self.refused_text(text("locker L", *many_signs(2000))[:65536])
        self.refused_text([65] * 65536)


if __name__ == "__main__":
    unittest.main()
