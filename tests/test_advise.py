"""Promise 4: ck_advise, its refusals and what is advised at each turn."""

import unittest
from fractions import Fraction

from tests.helper import advise, last, places, run, say, start, turn

HALF = Fraction(1, 2)
TRIM = [start(3), say(0, 1, 2)]
BY_TWO = TRIM + [say(0, HALF)]
BY_ONE = BY_TWO + [say(1)]
PART = BY_ONE + [say(0)]
BY_HOLDER = PART + [say(0, Fraction(2, 3), Fraction(5, 6))]
BY_ZERO = BY_HOLDER + [say(0)]
OVER = BY_ZERO + [say(1)]


def places_advised(line, worth):
    return places(last(line + [advise(worth)])[2:])


def which_advised(line, worth):
    return last(line + [advise(worth)])[1]


class Refused(unittest.TestCase):
    def test_when_it_is_over(self):
        for worth in ([1, 1, 1], [1, 1], [], [0, 0, 0], [1001, 0, 0], [1] * 70):
            self.assertEqual(last(OVER + [advise(worth)]), [-11])
        self.assertEqual(last(TRIM + [say(0, 1), say(0), say(1), advise([1, 1, 1])]), [-11])

    def test_worths_that_may_not_be(self):
        for line in (TRIM[:1], TRIM, BY_TWO, BY_ONE, PART, BY_HOLDER, BY_ZERO):
            for worth in ([], [1], [1, 1], [1, 1, 1, 1], [1] * 64, [1] * 70, [0, 0, 0], [1001, 1, 1], [1, 1, 1001],
                          [0, 65535, 0], [0, 0], [1000, 1001, 1000]):
                given = run(line + [turn(), advise(worth), turn()])
                self.assertEqual(given[-2], [-22], worth)
                self.assertEqual(given[-3], given[-1])

    def test_worths_that_just_may_be(self):
        for worth in ([1000, 1000, 1000], [0, 0, 1], [1000, 0, 0], [0, 1, 0]):
            self.assertEqual(last([start(3), advise(worth)])[0], 0)
        for cells in (1, 64):
            self.assertEqual(last([start(cells), advise([1000] * cells)])[0], 0)
            self.assertEqual(last([start(cells), advise([1000] * (cells - 1))]), [-22])
            self.assertEqual(last([start(cells), advise([1000] * (cells + 1))]), [-22])

    def test_advising_changes_nothing(self):
        line = [start(3), advise([1, 5, 0]), turn(), say(0, 1, 2), advise([9, 0, 0]), turn(), say(0, 1)]
        self.assertEqual([answer[0] for answer in run(line)], [0, 0, 0, 0, 0, 17, 0])


class Cut(unittest.TestCase):
    def test_three_of_the_same_worth(self):
        self.assertEqual(last([start(3), advise([1, 1, 1])]), [0, 0, 1, 1, 2, 1])
        self.assertEqual(last([start(1), advise([1000])]), [0, 0, 1, 3, 2, 3])
        self.assertEqual(last([start(2), advise([1, 1])]), [0, 0, 2, 3, 4, 3])
        self.assertEqual(last([start(3), advise([1, 2, 4])]), [0, 0, 5, 3, 29, 12])

    def test_cells_worth_nothing_at_a_cut(self):
        self.assertEqual(places_advised([start(6)], [1, 0, 1, 0, 0, 1]), [1, 3])
        self.assertEqual(places_advised([start(5)], [0, 0, 3, 0, 0]), [Fraction(7, 3), Fraction(8, 3)])
        self.assertEqual(places_advised([start(4)], [0, 2, 0, 1]), [Fraction(3, 2), 2])

    def test_the_largest_under(self):
        self.assertEqual(last([start(2), advise([1, 1000])]), [0, 0, 1999, 1500, 4999, 3000])

    def test_the_largest_cake(self):
        self.assertEqual(places_advised([start(64)], [1000] * 64), [Fraction(64, 3), Fraction(128, 3)])
        self.assertEqual(places_advised([start(64)], [0] * 63 + [1]), [63 + Fraction(1, 3), 63 + Fraction(2, 3)])


class Trim(unittest.TestCase):
    def test_to_as_much_as_the_second(self):
        self.assertEqual(last(TRIM + [advise([4, 1, 2])]), [0, 0, 1, 2, 0, 1])
        self.assertEqual(last(TRIM + [advise([1, 4, 2])]), [0, 1, 3, 2, 0, 1])
        self.assertEqual(last(TRIM + [advise([3, 2, 4])]), [0, 2, 11, 4, 0, 1])

    def test_two_or_three_worth_most(self):
        self.assertEqual(last(TRIM + [advise([2, 2, 1])]), [0, 0, 1, 1, 0, 1])
        self.assertEqual(last(TRIM + [advise([1, 2, 2])]), [0, 1, 2, 1, 0, 1])
        self.assertEqual(last(TRIM + [advise([2, 1, 2])]), [0, 0, 1, 1, 0, 1])
        self.assertEqual(last(TRIM + [advise([7, 7, 7])]), [0, 0, 1, 1, 0, 1])

    def test_the_first_place_where_the_piece_ends_in_nothing(self):
        line = [start(5), say(0, 3, 4)]
        self.assertEqual(last(line + [advise([5, 0, 0, 5, 0])]), [0, 0, 1, 1, 0, 1])
        self.assertEqual(last(line + [advise([5, 0, 3, 5, 0])]), [0, 0, 1, 1, 0, 1])

    def test_to_nothing(self):
        self.assertEqual(last(TRIM + [advise([0, 0, 9])]), [0, 2, 2, 1, 0, 1])
        self.assertEqual(last(TRIM + [advise([0, 9, 0])]), [0, 1, 1, 1, 0, 1])
        self.assertEqual(last(TRIM + [advise([9, 0, 0])]), [0, 0, 0, 1, 0, 1])

    def test_to_nothing_from_its_own_first_place_on(self):
        line = [start(4), say(0, Fraction(1, 2), Fraction(3, 4))]
        self.assertEqual(last(line + [advise([0, 0, 0, 1])]), [0, 2, 3, 4, 0, 1])

    def test_pieces_without_length(self):
        self.assertEqual(last([start(3), say(0, 0, 0), advise([1, 1, 1])]), [0, 2, 0, 1, 0, 1])
        self.assertEqual(last([start(3), say(0, 3, 3), advise([1, 1, 1])]), [0, 0, 0, 1, 0, 1])
        self.assertEqual(last([start(3), say(0, 1, 1), advise([1, 1, 1])]), [0, 2, 2, 1, 0, 1])

    def test_a_cut_within_a_cell(self):
        line = [start(1), say(0, Fraction(1, 6), Fraction(1, 3))]
        self.assertEqual(last(line + [advise([6])]), [0, 2, 1, 2, 0, 1])


class Choose(unittest.TestCase):
    def test_by_person_two(self):
        self.assertEqual(last(BY_TWO + [advise([5, 1, 2])]), [0, 0, 0, 1, 0, 1])
        self.assertEqual(last(BY_TWO + [advise([5, 1, 3])]), [0, 2, 0, 1, 0, 1])
        self.assertEqual(last(BY_TWO + [advise([5, 4, 3])]), [0, 1, 0, 1, 0, 1])

    def test_of_such_the_first(self):
        self.assertEqual(which_advised(BY_TWO, [2, 1, 1]), 0)
        self.assertEqual(which_advised(BY_TWO, [1, 1, 1]), 1)
        self.assertEqual(which_advised(BY_TWO, [4, 1, 2]), 0)

    def test_by_person_one_the_trimmed_piece_if_it_is_left(self):
        self.assertEqual(which_advised(BY_ONE, [0, 0, 9]), 0)
        self.assertEqual(which_advised(BY_TWO + [say(2)], [0, 9, 0]), 0)

    def test_by_person_one_if_the_trimmed_piece_is_gone(self):
        line = BY_TWO + [say(0)]
        self.assertEqual(which_advised(line, [9, 1, 2]), 2)
        self.assertEqual(which_advised(line, [9, 2, 1]), 1)
        self.assertEqual(which_advised(line, [9, 1, 1]), 1)
        self.assertEqual(which_advised(line, [9, 0, 0]), 1)

    def test_parts(self):
        # The parts are from 1/2 to 2/3, to 5/6, to 1: all alike.
        self.assertEqual(which_advised(BY_HOLDER, [1, 0, 0]), 0)
        self.assertEqual(which_advised(BY_HOLDER, [0, 1, 9]), 0)
        self.assertEqual(which_advised(BY_HOLDER[:-1] + [say(0, Fraction(3, 5), Fraction(4, 5))], [1, 0, 0]), 1)
        self.assertEqual(which_advised(BY_HOLDER[:-1] + [say(0, Fraction(3, 5), Fraction(7, 10))], [1, 0, 0]), 2)

    def test_parts_that_are_left(self):
        self.assertEqual(which_advised(BY_ZERO, [1, 0, 0]), 1)
        self.assertEqual(which_advised(BY_HOLDER + [say(1)], [1, 0, 0]), 0)
        self.assertEqual(which_advised(BY_HOLDER + [say(2)], [0, 0, 1]), 0)
        uneven = BY_HOLDER[:-1] + [say(0, Fraction(3, 5), Fraction(7, 10))]
        self.assertEqual(which_advised(uneven + [say(2)], [1, 0, 0]), 0)
        self.assertEqual(which_advised(uneven + [say(0)], [1, 0, 0]), 2)


class Part(unittest.TestCase):
    def test_three_of_the_same_worth(self):
        self.assertEqual(last(PART + [advise([1, 0, 0])]), [0, 0, 2, 3, 5, 6])

    def test_trimmings_worth_nothing(self):
        self.assertEqual(last(PART + [advise([0, 1, 1])]), [0, 0, 1, 2, 1, 2])
        behind = [start(4), say(0, 1, 2), say(2, 3), say(0), say(2)]
        self.assertEqual(last(behind + [advise([1, 1, 1, 0])]), [0, 0, 3, 1, 3, 1])
        within = [start(4), say(0, 1, 2), say(2, Fraction(7, 2)), say(0), say(2)]
        self.assertEqual(last(within + [advise([1, 1, 0, 0])]), [0, 0, 7, 2, 7, 2])

    def test_cells_worth_nothing_in_the_trimmings(self):
        line = [start(7), say(0, 0, 0), say(2, 0), say(0), say(2)]
        self.assertEqual(places_advised(line, [0, 1, 0, 1, 0, 1, 0]), [2, 4])
        line = [start(7), say(0, 0, 0), say(2, Fraction(1, 2)), say(0), say(2)]
        self.assertEqual(places_advised(line, [0, 0, 3, 0, 0, 0, 0]), [Fraction(7, 3), Fraction(8, 3)])

    def test_marks_beyond_sixty_four_bits(self):
        cut = Fraction(4001, 4000)
        trimmed = Fraction(2 ** 34 - 1, 2 ** 34)
        line = [start(2), say(0, cut, 2), say(0, trimmed), say(1), say(0)]
        low = 997 * trimmed
        high = 997 + Fraction(991, 4000)
        first, second = places_advised(line, [997, 991])
        self.assertEqual(first, 1 + (low + (high - low) / 3 - 997) / 991)
        self.assertEqual(second, 1 + (low + (high - low) * 2 / 3 - 997) / 991)
        self.assertGreater(first.denominator, 2 ** 50)
        self.assertEqual(last(line + [say(0, first, second)]), [0])


if __name__ == "__main__":
    unittest.main()
