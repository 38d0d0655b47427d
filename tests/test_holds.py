"""Points a to d: one person says what's advised, the two others say any words that may be said."""

import random
import unittest
from fractions import Fraction

from tests.helper import Model, advise, drawn_cells, drawn_word, drawn_worth, flat, last, say, shares, start, value

LINES = 400


def advised(line, worth):
    """What's advised, as the call that says it."""
    answer = last(line + [advise(worth)])
    if answer[0] != 0:
        raise ValueError("nothing is advised")
    return [2] + answer[1:]


def any_word(draw, line, model):
    """Mostly any word; at times one that's advised for some worth, which makes for close shares."""
    if draw.randrange(3) == 0:
        return advised(line, drawn_worth(draw, model.cells))
    return drawn_word(draw, model)


class Holds(unittest.TestCase):
    def say(self, line, model, word):
        self.assertEqual(last(line + [word]), [0], flat(line + [word]))
        self.assertEqual(model.say(*word[1:]), [0], flat(line + [word]))
        line.append(word)

    def play(self, draw, honest, worth):
        """A whole line in which honest says what's advised by worth (c: it may be said)."""
        model = Model(len(worth))
        line = [start(len(worth))]
        while model.stage() != 7:
            if model.person() == honest:
                self.say(line, model, advised(line, worth))
            else:
                self.say(line, model, any_word(draw, line, model))
        return line

    def check_worth(self, line, honest, worth):
        values = [value(worth, stretches) for stretches in shares(line)]
        self.assertEqual(values[honest], max(values), flat(line))
        self.assertGreaterEqual(3 * values[honest], sum(worth), flat(line))
        self.assertEqual(sum(values), sum(worth), flat(line))

    def check_whole(self, line, cells):
        """Laid in a row, the stretches of all shares go from 0 to cells without a gap."""
        row = sorted(stretch for stretches in shares(line) for stretch in stretches)
        at = Fraction(0)
        for begin, end in row:
            self.assertEqual(begin, at, flat(line))
            self.assertLessEqual(begin, end, flat(line))
            at = end
        self.assertEqual(at, cells, flat(line))

    def check(self, seed, honest):
        draw = random.Random(seed)
        for ignored in range(LINES):
            cells = drawn_cells(draw)
            worth = drawn_worth(draw, cells)
            line = self.play(draw, honest, worth)
            self.check_worth(line, honest, worth)
            self.check_whole(line, cells)

    def test_person_zero(self):
        self.check(10, 0)

    def test_person_one(self):
        self.check(11, 1)

    def test_person_two(self):
        self.check(12, 2)

    def test_all_three(self):
        draw = random.Random(13)
        for ignored in range(LINES):
            cells = drawn_cells(draw)
            worths = [drawn_worth(draw, cells) for person in range(3)]
            model = Model(cells)
            line = [start(cells)]
            while model.stage() != 7:
                self.say(line, model, advised(line, worths[model.person()]))
            for person in range(3):
                self.check_worth(line, person, worths[person])
            self.check_whole(line, cells)

    def test_advice_for_any_worth_may_be_said_at_every_turn(self):
        draw = random.Random(14)
        for ignored in range(LINES):
            model = Model(drawn_cells(draw))
            line = [start(model.cells)]
            while model.stage() != 7:
                word = advised(line, drawn_worth(draw, model.cells))
                self.assertEqual(last(line + [word]), [0], flat(line + [word]))
                self.say(line, model, drawn_word(draw, model))
            self.check_whole(line, model.cells)

    def test_the_largest_under_of_a_trim_may_be_said(self):
        line = [start(3), say(0, Fraction(9919, 3999), Fraction(11437, 4000))]
        word = advised(line, [1000, 999, 991])
        self.assertEqual(word[3], 1000 * 3999 * 4000)
        self.assertEqual(last(line + [word]), [0])

    def test_the_largest_under_of_a_part_may_be_said(self):
        line = [start(3), say(0, Fraction(4927, 3999), Fraction(10651, 4000)),
                say(1, Fraction(23260719700, 2 ** 34 - 1)), say(2), say(1)]
        word = advised(line, [999, 1000, 999])
        self.assertEqual(word[3], 3 * 1000 * (2 ** 34 - 1) * 4000)
        self.assertEqual(last(line + [word]), [0])


if __name__ == "__main__":
    unittest.main()
