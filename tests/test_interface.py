"""What the interface says over all functions."""

import inspect
import sys
import unittest

from halfseendesk.plates import ask, draw, entries, judge, many, nth, says
from tests.samples import LIGHT_PLAIN, blotted, book, locker, many_signs, plate_lines, text

PLATES = (
    text(*plate_lines(1)), text(*plate_lines(8, 8, 8, 8)), text(*plate_lines(2, 1))[:-1], [], [10], [0, 255] * 500,
    text(*plate_lines(9)), [10] * 65536, [48] * 65537,
)
DRAWINGS = (
    (LIGHT_PLAIN, 0, locker(), [1, 1, 0]), (0, 1, locker(), [2, 2, 0, 3, 4, 2, 2, 2, 4]),
    (2 ** 64 - 1, 2 ** 64 - 1, locker(), [1, 1, 0]), (0, 0, locker(), [0]), (0, 0, locker(), []),
    (0, 0, [], [1, 1, 0]), (0, 0, [10] * 65536, [1, 1, 0]), (0, 0, [10] * 65537, [1, 1, 0]),
    (0, 0, locker(), [4] * 64),
)
BOOK = book("A come", "B spell", "C go away", "A.A", "B.B more", "C.A.A.A stay")
# A locker, a book and a plate each: with readings, without any, and refused in each way.
SIGHTS = (
    (locker(), BOOK, blotted(1)), (locker(), BOOK, blotted(2, 1, side="unknown")), (locker(), BOOK, blotted(4, 2)),
    (locker(), BOOK, blotted((1, " above"), (2, " above below"))), (locker(), BOOK, blotted(8)),
    (locker(), BOOK, draw(LIGHT_PLAIN, 1, locker(), [2, 2, 1, 3, 1, 0])[1:]), (locker(), book(), blotted(1)),
    (locker(), BOOK, blotted(4, 1, 1)), (locker(), book("C.C.C.C", "A.A.A.B.B"), blotted(4, 4, 5)),
    (locker(), BOOK, [10] * 65537), (locker(), [10] * 65537, blotted(1)), ([10] * 65537, BOOK, blotted(1)),
    (locker()[:-1], BOOK, blotted(1)), (locker(), BOOK[:-1], blotted(1)), (locker(), BOOK, blotted(1)[:-1]),
    ([], [], []), (locker(), BOOK, blotted(*[(1, " below")] * 4)),
)
INDEXES = (0, 1, 2, 100, 2 ** 64 - 1)


class Interface(unittest.TestCase):
    def calls(self):
        calls = [(judge, (p,)) for p in PLATES] + [(draw, drawing) for drawing in DRAWINGS]
        calls += [(function, sight) for function in (many, ask) for sight in SIGHTS]
        numbered = (nth, entries, says)
        return calls + [(function, (i, *sight)) for function in numbered for sight in SIGHTS for i in INDEXES]

    def copied(self, arguments):
        return tuple(list(value) if isinstance(value, list) else value for value in arguments)

    def test_names_and_order_of_the_arguments(self):
        self.assertEqual(list(inspect.signature(judge).parameters), ["p"])
        self.assertEqual(list(inspect.signature(draw).parameters), ["light", "side", "t", "s"])
        self.assertEqual(list(inspect.signature(many).parameters), ["t", "b", "p"])
        self.assertEqual(list(inspect.signature(nth).parameters), ["i", "t", "b", "p"])
        self.assertEqual(list(inspect.signature(entries).parameters), ["j", "t", "b", "p"])
        self.assertEqual(list(inspect.signature(ask).parameters), ["t", "b", "p"])
        self.assertEqual(list(inspect.signature(says).parameters), ["i", "t", "b", "p"])
        self.assertEqual(judge(p=text(*plate_lines(1, 1))), [2])
        self.assertEqual(draw(s=[1, 1, 0], t=locker(), side=2, light=0), [-1])
        self.assertEqual(many(p=blotted(1), b=BOOK, t=locker()), [0, 3])
        self.assertEqual(nth(p=blotted(1), b=BOOK, t=locker(), i=2), [1, 2])
        self.assertEqual(entries(p=blotted(1), b=BOOK, t=locker(), j=0), [3, 0, 1, 2])
        self.assertEqual(ask(p=blotted(1), b=BOOK, t=locker()), [1, 1])
        self.assertEqual(says(p=blotted(1), b=BOOK, t=locker(), i=2), [7, *b"go away"])

    def test_one_list_of_whole_numbers(self):
        for function, arguments in self.calls():
            answer = function(*self.copied(arguments))
            self.assertIs(type(answer), list)
            self.assertEqual({type(number) for number in answer}, {int})

    def test_a_refusal_is_its_number_alone_but_judges(self):
        for function, arguments in self.calls():
            answer = function(*self.copied(arguments))
            if answer[0] < 0:
                self.assertEqual(len(answer), 3 if answer[0] == -8 and function is judge else 1)
            else:
                behind = {judge: 0, many: 1, ask: 1}.get(function, answer[0])
                self.assertEqual(len(answer), 1 + behind)

    def test_what_is_handed_in_stays_as_it_was(self):
        for function, arguments in self.calls():
            handed = self.copied(arguments)
            function(*handed)
            self.assertEqual(handed, arguments)

    def test_what_is_handed_in_is_not_changed_for_a_while_either(self):
        class Unchanging(list):
            def refuse(self, *arguments):
                raise AssertionError("changed")

            append = extend = insert = pop = remove = clear = sort = reverse = refuse
            __setitem__ = __delitem__ = __iadd__ = __imul__ = refuse

        for function, arguments in self.calls():
            guarded = [Unchanging(value) if isinstance(value, list) else value for value in arguments]
            self.assertEqual(function(*guarded), function(*self.copied(arguments)))

    def test_the_same_call_twice_gives_the_same(self):
        first = [function(*self.copied(arguments)) for function, arguments in self.calls()]
        backwards = [function(*self.copied(arguments)) for function, arguments in reversed(self.calls())]
        self.assertEqual(first, backwards[::-1])

    def test_an_answer_that_is_changed_changes_no_later_one(self):
        for function, arguments in self.calls():
            answer = function(*self.copied(arguments))
            kept = list(answer)
            answer.clear()
            self.assertEqual(function(*self.copied(arguments)), kept)

    def test_what_is_as_long_as_its_input_is_not_nested(self):
        depth = len(inspect.stack())
        limit = sys.getrecursionlimit()
        sys.setrecursionlimit(depth + 60)
        try:
            judge([10] * 65536)
            judge(text(*plate_lines(8, 8, 8, 8)))
            draw(0, 0, text("locker L", *["sign A 1 square 0000000000000000"] * 1900), [4] * 64)
            draw(0, 0, locker(), [1, 8, 2, 2, 2, 2, 2, 2, 2, 2])
            signs = many_signs(32)
            names = [line.split()[1] for line in signs]
            many(text("locker DESK", *signs), book(*names), blotted(1, 1, side="unknown"))
            many(locker(), book() + text("A m") * 16000, blotted(1))
            many(locker(), BOOK, blotted(8, 8, 8, 8))
            ask(text("locker DESK", *signs), book(".".join(names[:8])), blotted(8, side="unknown"))
            entries(1, text("locker DESK", *signs), book(*names), blotted(1, 1, side="unknown"))
            says(9, text("locker DESK", *signs), book(*[name + " " + "m" * 64 for name in names]), blotted(1, 1))
        finally:
            sys.setrecursionlimit(limit)


if __name__ == "__main__":
    unittest.main()
