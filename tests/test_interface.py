"""What the interface says over all functions."""

import inspect
import sys
import unittest

from halfseendesk.plates import draw, judge
from tests.samples import LIGHT_PLAIN, locker, plate_lines, text

PLATES = (
    text(*plate_lines(1)), text(*plate_lines(8, 8, 8, 8)), text(*plate_lines(2, 1))[:-1], [], [10], [0, 255] * 500,
    text(*plate_lines(9)), [10] * 65536, [48] * 65537,
)
DRAWINGS = (
    (LIGHT_PLAIN, 0, locker(), [1, 1, 0]), (0, 1, locker(), [2, 2, 0, 3, 4, 2, 2, 2, 4]),
    (2 ** 64 - 1, 2 ** 64 - 1, locker(), [1, 1, 0]), (0, 0, locker(), [0]), (0, 0, locker(), []),
    (0, 0, [], [1, 1, 0]), (0, 0, [10] * 65536, [1, 1, 0]), (0, 0, [10] * 65537, [1, 1, 0]),
    (0, 0, locker(), [4] * 64),
)


class Interface(unittest.TestCase):
    def calls(self):
        return [(judge, (p,)) for p in PLATES] + [(draw, drawing) for drawing in DRAWINGS]

    def copied(self, arguments):
        return tuple(list(value) if isinstance(value, list) else value for value in arguments)

    def test_names_and_order_of_the_arguments(self):
        self.assertEqual(list(inspect.signature(judge).parameters), ["p"])
        self.assertEqual(list(inspect.signature(draw).parameters), ["light", "side", "t", "s"])
        self.assertEqual(judge(p=text(*plate_lines(1, 1))), [2])
        self.assertEqual(draw(s=[1, 1, 0], t=locker(), side=2, light=0), [-1])

    def test_one_list_of_whole_numbers(self):
        for function, arguments in self.calls():
            answer = function(*self.copied(arguments))
            self.assertIs(type(answer), list)
            self.assertEqual({type(number) for number in answer}, {int})

    def test_a_refusal_is_its_number_alone_but_judges(self):
        for function, arguments in self.calls():
            answer = function(*self.copied(arguments))
            if answer[0] < 0:
                self.assertEqual(len(answer), 3 if answer[0] == -8 else 1)
            else:
                self.assertEqual(len(answer), 1 if function is judge else 1 + answer[0])

    def test_what_is_handed_in_stays_as_it_was(self):
        for function, arguments in self.calls():
            handed = self.copied(arguments)
            function(*handed)
            self.assertEqual(handed, arguments)

    def test_what_is_handed_in_is_not_changed_for_a_while_either(self):
        class Unchanging(list):
            def refuse(self, *arguments):
                raise AssertionError("changed")

            append = extend = insert = pop = remove = clear = sort = reverse = refuse
            __setitem__ = __delitem__ = __iadd__ = __imul__ = refuse

        for function, arguments in self.calls():
            guarded = [Unchanging(value) if isinstance(value, list) else value for value in arguments]
            self.assertEqual(function(*guarded), function(*self.copied(arguments)))

    def test_the_same_call_twice_gives_the_same(self):
        first = [function(*self.copied(arguments)) for function, arguments in self.calls()]
        backwards = [function(*self.copied(arguments)) for function, arguments in reversed(self.calls())]
        self.assertEqual(first, backwards[::-1])

    def test_an_answer_that_is_changed_changes_no_later_one(self):
        for function, arguments in self.calls():
            answer = function(*self.copied(arguments))
            kept = list(answer)
            answer.clear()
            self.assertEqual(function(*self.copied(arguments)), kept)

    def test_what_is_as_long_as_its_input_is_not_nested(self):
        depth = len(inspect.stack())
        limit = sys.getrecursionlimit()
        sys.setrecursionlimit(depth + 60)
        try:
            judge([10] * 65536)
            judge(text(*plate_lines(8, 8, 8, 8)))
            draw(0, 0, text("locker L", *["sign A 1 square 0000000000000000"] * 1900), [4] * 64)
            draw(0, 0, locker(), [1, 8, 2, 2, 2, 2, 2, 2, 2, 2])
        finally:
            sys.setrecursionlimit(limit)


if __name__ == "__main__":
    unittest.main()
