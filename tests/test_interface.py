"""The interface's last paragraph, and the form of the list that's given back."""

import builtins
import random
import sys
import unittest
from unittest import mock

from cakeshares.cake import answers
from tests.helper import advise, drawn_line, flat, say, share, start, turn

LINE = flat([start(3), turn(), say(0, 1, 2), advise([5, 1, 1]), say(0, (1, 5)), say(9), share(3), share(0),
             say(0), say(0), say(1), turn(), say(0, (2, 5), (3, 5)), say(2), say(2), say(1), turn(), say(0),
             advise([1, 1, 1]), share(0), share(1), share(2), start(0), turn()])
ANSWERS = [1, 0, 1, 0, 1, 0, 6, 0, 0, 1, 5, 0, 1, 1, 0, 1, -22, 1, -22, 1, -11,
           1, 0, 1, -22, 1, 0, 1, 20, 1, 0, 1, 0, 1, -22, 1, 0, 1, 7, 1, -11,
           1, -11, 9, 0, 2, 1, 3, 1, 2, 5, 3, 5, 9, 0, 1, 1, 2, 1, 1, 5, 2, 5, 9, 0, 0, 1, 1, 5, 3, 5, 1, 1,
           1, -22, 1, 7]


class Untouchable(list):
    """A list that can only be read."""

    def refuse(self, *ignored, **named):
        raise AssertionError("what is handed in is changed")

    append = extend = insert = pop = remove = reverse = sort = clear = refuse
    __setitem__ = __delitem__ = __iadd__ = __imul__ = refuse


class Interface(unittest.TestCase):
    def test_a_whole_line(self):
        self.assertEqual(answers(LINE), ANSWERS)

    def test_the_smallest_line(self):
        self.assertEqual(answers([0, 1]), [1, 0])

    def test_a_row_of_no_numbers(self):
        self.assertEqual(answers([0, 1, 3, 0, 1]), [1, 0, 1, -22, 1, 0])

    def test_kinds(self):
        draw = random.Random(30)
        for ignored in range(50):
            given = answers(flat(drawn_line(draw, 30)))
            self.assertIs(type(given), list)
            self.assertEqual({type(number) for number in given}, {int})

    def test_what_is_handed_in_stays_the_same(self):
        draw = random.Random(31)
        for ignored in range(50):
            calls = flat(drawn_line(draw, 30))
            before = list(calls)
            answers(calls)
            self.assertEqual(calls, before)
            self.assertEqual(answers(Untouchable(calls)), answers(calls))

    def test_nothing_is_kept(self):
        draw = random.Random(32)
        lines = [flat(drawn_line(draw, 30)) for ignored in range(50)]
        first = [answers(calls) for calls in lines]
        self.assertEqual([answers(calls) for calls in reversed(lines)], first[::-1])

    def test_what_is_given_back_is_the_callers_own(self):
        given = answers(LINE)
        given.clear()
        self.assertEqual(answers(LINE), ANSWERS)

    def test_it_prints_reads_and_imports_nothing(self):
        def refuse(*ignored, **named):
            raise AssertionError("something is printed, read or imported")

        loaded = set(sys.modules)
        with mock.patch.multiple(builtins, print=refuse, open=refuse, input=refuse, __import__=refuse):
            given = answers(LINE)
        self.assertEqual(given, ANSWERS)
        self.assertEqual(set(sys.modules), loaded)

    def test_the_longest_list_needs_no_deep_calls(self):
        deep = []

        def watch(frame, event, argument):
            depth = 0
            while frame is not None:
                depth += 1
                frame = frame.f_back
            deep.append(depth)

        def deepest(calls):
            deep.clear()
            sys.setprofile(watch)
            try:
                answers(calls)
            finally:
                sys.setprofile(None)
            return max(deep)

        short = flat([start(64), advise([1] * 64)])
        long = flat([start(64)] + [advise([1] * 64)] * 240)
        self.assertEqual(deepest(long), deepest(short))


if __name__ == "__main__":
    unittest.main()
