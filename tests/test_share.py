"""Promise 5: ck_share."""

import unittest
from fractions import Fraction

from tests.helper import last, run, say, share, start

HALF = Fraction(1, 2)
TRIMMED = [start(3), say(0, 1, 2), say(1, Fraction(3, 2))]
PARTED = say(0, Fraction(8, 5), Fraction(9, 5))
TO_ONE = TRIMMED + [say(2), say(1), PARTED, say(1), say(2)]
TO_TWO = TRIMMED + [say(1), say(0), PARTED, say(0), say(1)]


def all_shares(line):
    return run(line + [share(who) for who in range(3)])[-3:]


class Share(unittest.TestCase):
    def test_trimmed_piece_to_person_one(self):
        self.assertEqual(all_shares(TO_ONE), [
            [0, 0, 1, 1, 1, 9, 5, 2, 1],
            [0, 1, 1, 3, 2, 8, 5, 9, 5],
            [0, 2, 1, 3, 1, 3, 2, 8, 5]])

    def test_trimmed_piece_to_person_two(self):
        self.assertEqual(all_shares(TO_TWO), [
            [0, 2, 1, 3, 1, 8, 5, 9, 5],
            [0, 0, 1, 1, 1, 9, 5, 2, 1],
            [0, 1, 1, 3, 2, 3, 2, 8, 5]])

    def test_every_way_to_choose_the_parts(self):
        parts = [[3, 2, 8, 5], [8, 5, 9, 5], [9, 5, 2, 1]]
        for line, holder in ((TO_ONE[:6], 1), (TO_TWO[:6], 2)):
            for by_holder in range(3):
                for by_zero in {0, 1, 2} - {by_holder}:
                    told = all_shares(line + [say(by_holder), say(by_zero)])
                    self.assertEqual(told[holder][5:], parts[by_holder])
                    self.assertEqual(told[0][5:], parts[by_zero])
                    self.assertEqual(told[3 - holder][5:], parts[3 - by_holder - by_zero])

    def test_no_trimmings(self):
        line = [start(3), say(0, HALF, 2), say(1, 2), say(0), say(1)]
        self.assertEqual(all_shares(line), [
            [0, 2, 1, 3, 1, 2, 1, 2, 1],
            [0, 1, 2, 2, 1, 2, 1, 2, 1],
            [0, 0, 1, 1, 2, 2, 1, 2, 1]])

    def test_no_trimmings_of_a_piece_without_length(self):
        line = [start(2), say(0, HALF, HALF), say(1, HALF), say(2), say(1)]
        self.assertEqual(all_shares(line), [
            [0, 0, 1, 1, 2, 1, 2, 1, 2],
            [0, 1, 2, 1, 2, 1, 2, 1, 2],
            [0, 1, 2, 2, 1, 1, 2, 1, 2]])

    def test_a_trimmed_piece_of_no_length(self):
        line = [start(2), say(0, 0, 0), say(2, 0), say(2), say(0), say(0, 1, 1), say(0), say(2)]
        self.assertEqual(all_shares(line), [
            [0, 0, 1, 0, 1, 1, 1, 2, 1],
            [0, 0, 1, 0, 1, 1, 1, 1, 1],
            [0, 0, 1, 0, 1, 0, 1, 1, 1]])

    def test_who_above_two(self):
        for line in (TO_ONE[:1], TO_ONE[:4], TO_ONE, TO_TWO):
            for who in (3, 4, 2 ** 31, 2 ** 32 - 1):
                self.assertEqual(last(line + [share(who)]), [-22])

    def test_it_is_not_over(self):
        for whole in (TO_ONE, TO_TWO):
            for said in range(1, len(whole)):
                for who in range(3):
                    self.assertEqual(last(whole[:said] + [share(who)]), [-11])
                self.assertEqual(last(whole[:said] + [share(3)]), [-22])

    def test_asking_twice(self):
        given = run(TO_TWO + [share(0), share(3), share(1), share(0)])[-4:]
        self.assertEqual(given[0], given[3])


if __name__ == "__main__":
    unittest.main()
