"""Drawn lines of any calls, answered as a slow model of the document answers them."""

import random
import unittest

from tests.helper import advise, drawn_line, drawn_worth, flat, model_answers, run, share, start, turn

LINES = 300


class AsTheModel(unittest.TestCase):
    def compare(self, line):
        self.assertEqual(run(line), model_answers(line), flat(line))

    def test_short_lines(self):
        draw = random.Random(20)
        for ignored in range(LINES):
            self.compare(drawn_line(draw, 30))

    def test_lines_of_many_calls(self):
        draw = random.Random(21)
        for ignored in range(LINES // 10):
            self.compare(drawn_line(draw, 255))

    def test_the_longest_line(self):
        draw = random.Random(22)
        line = [start(60)]
        while len(line) < 256:
            line.append(advise(drawn_worth(draw, 60)))
        self.assertLessEqual(len(flat(line)), 16000)
        self.compare(line)

    def test_only_what_is_said_changes_anything(self):
        draw = random.Random(23)
        for ignored in range(LINES):
            line = drawn_line(draw, 40)
            given = run(line)
            kept = [at for at in range(len(line)) if line[at][0] in (0, 2) and given[at] == [0]]
            asked = [turn()] + [share(who) for who in range(3)]
            self.assertEqual(run(line + asked)[-4:], run([line[at] for at in kept] + asked)[-4:], flat(line))


if __name__ == "__main__":
    unittest.main()
