"""Promises 1 and 2: ck_start and ck_turn."""

import unittest
from fractions import Fraction

from tests.helper import advise, last, run, say, share, start, turn

HALF = Fraction(1, 2)
TO_THE_TRIM = [start(3), say(0, 1, 2)]
TRIMMED_TO_ONE = TO_THE_TRIM + [say(0, HALF), say(1), say(0)]
TRIMMED_TO_TWO = TO_THE_TRIM + [say(0, HALF), say(0), say(1)]
REST = [say(0, HALF, HALF), say(0), say(1)]


def turns(calls):
    """What ck_turn answers behind each of the calls."""
    asked = []
    for call in calls:
        asked += [call, turn()]
    return [answer[0] for answer in run(asked)[1::2]]


class Start(unittest.TestCase):
    def test_cells_that_may_be(self):
        for cells in (1, 2, 3, 63, 64):
            self.assertEqual(run([start(cells), turn()]), [[0], [0]])

    def test_cells_that_may_not_be(self):
        for cells in (0, 65, 66, 128, 65536, 2 ** 31, 2 ** 32 - 1):
            self.assertEqual(run([start(1), start(cells)]), [[0], [-22]])

    def test_cells_are_those_that_were_started_with(self):
        for cells in (1, 2, 64):
            self.assertEqual(last([start(cells), say(0, cells, cells)]), [0])
            self.assertEqual(last([start(cells), say(0, cells, cells + 1)]), [-22])

    def test_another_begins_anew_at_every_turn(self):
        whole = TRIMMED_TO_ONE + REST
        for said in range(1, len(whole) + 1):
            line = whole[:said] + [start(2), turn(), share(0), advise([1, 1]), advise([1, 1, 1]), say(0, 1, 2)]
            tail = run(line)[said:]
            self.assertEqual(tail, [[0], [0], [-11], [0, 0, 2, 3, 4, 3], [-22], [0]])

    def test_a_line_behind_another_is_as_if_alone(self):
        for before in (TRIMMED_TO_ONE + REST, TRIMMED_TO_TWO + REST, TRIMMED_TO_TWO[:4]):
            for behind in (TRIMMED_TO_ONE + REST, TRIMMED_TO_TWO + REST):
                asked = behind + [share(who) for who in range(3)]
                self.assertEqual(run(before + asked)[len(before):], run(asked))

    def test_a_refused_one_leaves_all_as_it_was(self):
        whole = TRIMMED_TO_TWO + REST
        for said in range(1, len(whole) + 1):
            for cells in (0, 65, 2 ** 32 - 1):
                line = whole[:said] + [start(cells), turn()] + whole[said:] + [share(who) for who in range(3)]
                given = run(line)
                self.assertEqual(given[said], [-22])
                self.assertEqual(given[said + 1], [turns(whole[:said])[-1]])
                del given[said:said + 2]
                self.assertEqual(given, run(whole + [share(who) for who in range(3)]))


class Turn(unittest.TestCase):
    def test_trimmed_piece_to_person_one(self):
        self.assertEqual(turns(TRIMMED_TO_ONE + REST), [0, 17, 34, 19, 36, 21, 6, 7])

    def test_trimmed_piece_to_person_two(self):
        self.assertEqual(turns(TRIMMED_TO_TWO + REST), [0, 17, 34, 19, 20, 37, 6, 7])

    def test_over_without_trimmings(self):
        for by_two, by_one in ((0, 1), (0, 2), (1, 0), (2, 0)):
            line = TO_THE_TRIM + [say(0, 1), say(by_two), say(by_one)]
            self.assertEqual(turns(line), [0, 17, 34, 19, 7])

    def test_a_trimmed_piece_of_no_length(self):
        line = TO_THE_TRIM + [say(2, 2), say(0), say(2), say(0, 2, 3), say(1), say(0)]
        self.assertEqual(turns(line), [0, 17, 34, 19, 36, 21, 6, 7])

    def test_a_piece_that_had_no_length_leaves_no_trimmings(self):
        line = [start(3), say(0, 1, 1), say(1, 1), say(2), say(1)]
        self.assertEqual(turns(line), [0, 17, 34, 19, 7])

    def test_asking_changes_nothing(self):
        line = TRIMMED_TO_ONE[:3] + [turn(), turn(), turn(), share(0), advise([1, 2, 3]), turn()]
        self.assertEqual([answer[0] for answer in run(line)[3:]], [34, 34, 34, -11, 0, 34])


if __name__ == "__main__":
    unittest.main()
