"""Promise 3: ck_say, the words that may be said at each turn and those that may not."""

import unittest
from fractions import Fraction
from math import gcd

from tests.helper import last, run, say, share, start, turn

HALF = Fraction(1, 2)
QUARTER = Fraction(1, 4)
BEYOND = 2 ** 64 - 1
CUT = [start(3)]
TRIM = CUT + [say(0, 1, 2)]
BY_TWO = TRIM + [say(1, Fraction(3, 2))]
BY_ONE = BY_TWO + [say(0)]
PART = BY_ONE + [say(1)]
BY_HOLDER = PART + [say(0, Fraction(5, 3), Fraction(7, 4))]
BY_ZERO = BY_HOLDER + [say(1)]
OVER = BY_ZERO + [say(0)]
EVERY_TURN = [CUT, TRIM, BY_TWO, BY_ONE, PART, BY_HOLDER, BY_ZERO, OVER]


class Case(unittest.TestCase):
    def taken(self, line, *words):
        for word in words:
            given = run(line + [turn(), word, turn()])
            self.assertEqual(given[-2], [0], word)
            self.assertNotEqual(given[-3], given[-1], word)

    def refused(self, line, *words):
        for word in words:
            given = run(line + [turn(), word, turn()])
            self.assertEqual(given[-2], [-22], word)
            self.assertEqual(given[-3], given[-1], word)


class Cut(Case):
    def test_ordinary(self):
        self.taken(CUT, say(0, 1, 2), say(0, HALF, Fraction(7, 3)), say(0, Fraction(1, 3999), Fraction(2999, 1000)))

    def test_pieces_without_length(self):
        self.taken(CUT, say(0, 0, 0), say(0, 3, 3), say(0, 0, 3), say(0, HALF, HALF), say(0, 0, 1), say(0, 1, 3))

    def test_first_behind_second(self):
        self.refused(CUT, say(0, 2, 1), say(0, HALF, 0), say(0, 3, Fraction(11999, 4000)),
                     say(0, Fraction(1, 3999), Fraction(1, 4000)))
        self.taken(CUT, say(0, Fraction(1, 4000), Fraction(1, 3999)))

    def test_beyond_the_cake(self):
        self.refused(CUT, say(0, 1, 4), say(0, 4, 4), say(0, 3, Fraction(12001, 4000)), say(0, 0, (BEYOND, 1)),
                     say(0, (BEYOND, 1), (BEYOND, 1)))

    def test_under_at_the_most(self):
        self.taken(CUT, say(0, (1, 4000), (3, 4000)), say(0, (1, 2), (11999, 4000)))
        self.refused(CUT, say(0, (1, 4001), (1, 1)), say(0, (1, 2), (4002, 4001)), say(0, (1, BEYOND), (1, 1)),
                     say(0, (0, 1), (1, BEYOND)))

    def test_under_zero(self):
        self.refused(CUT, say(0, (0, 0), (1, 1)), say(0, (1, 0), (1, 1)), say(0, (1, 1), (2, 0)),
                     say(0, (0, 1), (0, 0)), say(0, (1, 0), (1, 0)), say(0, (0, 0), (0, 0)))

    def test_not_in_lowest_terms(self):
        self.refused(CUT, say(0, (2, 2), (2, 1)), say(0, (1, 1), (4, 2)), say(0, (6, 4), (2, 1)),
                     say(0, (1, 1), (3999, 3999)), say(0, (1000, 4000), (2, 1)), say(0, (1, 1), (9, 3)))

    def test_zero_told_otherwise(self):
        self.refused(CUT, say(0, (0, 2), (1, 1)), say(0, (0, 4000), (1, 1)), say(0, (0, 1), (0, 3)))
        self.taken(CUT, say(0, (0, 1), (0, 1)))

    def test_which_is_not_looked_at(self):
        self.taken(CUT, say(1, 1, 2), say(3, 1, 2), say(2 ** 32 - 1, 1, 2))

    def test_the_smallest_and_the_largest_cake(self):
        self.taken([start(1)], say(0, (1, 3), (2, 3)), say(0, 1, 1))
        self.refused([start(1)], say(0, 1, (4000, 3999)))
        self.taken([start(64)], say(0, (255999, 4000), (64, 1)))
        self.refused([start(64)], say(0, 64, (256001, 4000)))


class Trim(Case):
    def test_from_a_pieces_first_to_its_last_place(self):
        for which in range(3):
            self.taken(TRIM, say(which, which), say(which, which + HALF), say(which, which + 1))

    def test_outside_of_the_piece(self):
        tiny = Fraction(1, 2 ** 34)
        for which in range(3):
            self.refused(TRIM, say(which, which + 1 + tiny), say(which, which + 2), say(which, (BEYOND, 1)))
        self.refused(TRIM, say(1, 1 - tiny), say(2, 2 - tiny), say(1, 0), say(2, 0))

    def test_no_such_piece(self):
        self.refused(TRIM, say(3, 3), say(3, 1), say(4, 0), say(2 ** 32 - 1, 1))

    def test_a_piece_without_length(self):
        line = CUT + [say(0, 1, 1)]
        self.taken(line, say(1, 1))
        self.refused(line, say(1, 0), say(1, 2), say(1, HALF))

    def test_under_at_the_most(self):
        self.assertEqual(gcd(2 ** 33, 2 ** 34 + 1), 1)
        self.taken(TRIM, say(0, (2 ** 33 + 1, 2 ** 34)), say(0, (1, 4001)))
        self.refused(TRIM, say(0, (2 ** 33, 2 ** 34 + 1)), say(0, (1, 2 ** 34 + 1)), say(0, (1, BEYOND)))

    def test_places_told_wrongly(self):
        self.refused(TRIM, say(0, (2, 4)), say(0, (0, 2)), say(0, (0, 0)), say(0, (1, 0)), say(1, (3, 3)),
                     say(0, (2 ** 33, 2 ** 34)))

    def test_the_second_place_is_not_looked_at(self):
        self.taken(TRIM, say(0, HALF, (0, 0)), say(0, HALF, (BEYOND, BEYOND)), say(0, HALF, (2, 4)))


class Choose(Case):
    def test_by_person_two(self):
        self.taken(BY_TWO, say(0), say(1), say(2))
        self.refused(BY_TWO, say(3), say(4), say(2 ** 32 - 1))

    def test_by_person_one_the_trimmed_piece_if_it_is_left(self):
        for trimmed in range(3):
            line = TRIM + [say(trimmed, trimmed + HALF)]
            for by_two in {0, 1, 2} - {trimmed}:
                self.taken(line + [say(by_two)], say(trimmed))
                self.refused(line + [say(by_two)], say(by_two), say(3 - trimmed - by_two), say(3))

    def test_by_person_one_either_if_the_trimmed_piece_is_gone(self):
        for trimmed in range(3):
            line = TRIM + [say(trimmed, trimmed + HALF), say(trimmed)]
            for left in {0, 1, 2} - {trimmed}:
                self.taken(line, say(left))
            self.refused(line, say(trimmed), say(3), say(2 ** 32 - 1))

    def test_a_piece_trimmed_of_nothing_is_the_trimmed_one_too(self):
        line = TRIM + [say(1, 2), say(0)]
        self.taken(line, say(1))
        self.refused(line, say(0), say(2))

    def test_by_who_has_the_trimmed_piece(self):
        self.taken(BY_HOLDER, say(0), say(1), say(2))
        self.refused(BY_HOLDER, say(3), say(2 ** 32 - 1))

    def test_by_person_zero(self):
        for by_holder in range(3):
            line = BY_HOLDER + [say(by_holder)]
            for left in {0, 1, 2} - {by_holder}:
                self.taken(line, say(left))
            self.refused(line, say(by_holder), say(3), say(2 ** 32 - 1))

    def test_places_are_not_looked_at(self):
        for line, which in ((BY_TWO, 0), (BY_ONE, 1), (BY_HOLDER, 2), (BY_ZERO, 0)):
            self.taken(line, say(which, (0, 0), (0, 0)), say(which, (BEYOND, BEYOND), (2, 4)),
                       say(which, (5, 1), (1, 1)))


class Part(Case):
    # The trimmings lie from 3/2 to 2.
    def test_within_the_trimmings(self):
        self.taken(PART, say(0, Fraction(3, 2), 2), say(0, 2, 2), say(0, Fraction(3, 2), Fraction(3, 2)),
                   say(0, Fraction(5, 3), Fraction(5, 3)), say(0, Fraction(8, 5), Fraction(9, 5)))

    def test_outside_of_the_trimmings(self):
        tiny = Fraction(1, 2 ** 58)
        self.refused(PART, say(0, Fraction(3, 2) - tiny, 2), say(0, Fraction(3, 2), 2 + tiny), say(0, 1, 2),
                     say(0, 0, 0), say(0, 2, 3), say(0, (BEYOND, 1), (BEYOND, 1)))
        self.taken(PART, say(0, Fraction(3, 2) + tiny, 2 - tiny))

    def test_first_behind_second(self):
        self.refused(PART, say(0, 2, Fraction(3, 2)), say(0, Fraction(5, 3), Fraction(8, 5)))

    def test_under_at_the_most(self):
        over = 2 ** 58 + 2 ** 57 + 1
        self.assertEqual(gcd(2 ** 58 + 2 ** 57 + 2, 2 ** 58 + 1), 1)
        self.taken(PART, say(0, (over, 2 ** 58), (over + 2, 2 ** 58)), say(0, (over, 2 ** 58), 2))
        self.refused(PART, say(0, (over + 1, 2 ** 58 + 1), 2), say(0, Fraction(3, 2), (over + 1, 2 ** 58 + 1)))

    def test_places_told_wrongly(self):
        self.refused(PART, say(0, (6, 4), 2), say(0, Fraction(3, 2), (4, 2)), say(0, (3, 0), 2), say(0, (3, 2), (2, 0)),
                     say(0, (0, 0), (0, 0)), say(0, (2 ** 58 + 2 ** 57, 2 ** 58), 2))

    def test_which_is_not_looked_at(self):
        self.taken(PART, say(3, Fraction(3, 2), 2), say(2 ** 32 - 1, Fraction(3, 2), 2))


class Over(Case):
    def test_nothing_may_be_said(self):
        no_trimmings = TRIM + [say(0, 1), say(1), say(0)]
        for line in (OVER, no_trimmings):
            for word in (say(0), say(0, 1, 2), say(3), say(0, (0, 0), (2, 4)), say(0, Fraction(3, 2), 2)):
                self.assertEqual(run(line + [word, turn()])[-2:], [[-11], [7]])


class Refusals(Case):
    def test_the_object_is_as_it_was(self):
        wrong = [say(7, (0, 0), (0, 0)), say(3, (2, 4), (1, 1)), say(2 ** 32 - 1, (BEYOND, 1), (BEYOND, 1)),
                 say(3, 2, 1), start(0), start(65), share(0), share(3)]
        asked = [share(who) for who in range(3)]
        line = []
        for number, line_to_here in enumerate(EVERY_TURN[:-1]):
            line += line_to_here[-1:] + wrong
        given = run(line + EVERY_TURN[-1][-1:] + asked)
        self.assertEqual(given[-3:], run(OVER + asked)[-3:])
        for at in range(0, len(line), 1 + len(wrong)):
            self.assertEqual(given[at:at + 9], [[0], [-22], [-22], [-22], [-22], [-22], [-22], [-11], [-22]])

    def test_a_refused_trim_leaves_the_pieces(self):
        line = TRIM + [say(0, 2), say(1, (3, 3)), say(2, 1), say(2, 3), say(0), say(2)]
        self.assertEqual(run(line + [share(0), share(2)])[-2:], [[0, 1, 1, 2, 1, 3, 1, 3, 1], [0, 0, 1, 1, 1, 3, 1, 3, 1]])

    def test_a_refused_cut_leaves_the_cake(self):
        self.assertEqual(last(CUT + [say(0, 1, 4), say(0, 2, 1), turn()]), [0])


if __name__ == "__main__":
    unittest.main()
