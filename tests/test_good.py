"""Promise 8: good."""

import unittest

from lines import (
    BEGIN, DISTANCE, FORTRESS, GENES, HARD_BUT_NO_HURDLE, LEAST, MOST, PARTS, TEN, THREE_HURDLES, TWO_HURDLES,
    all_rows, all_turns, asked, good, row, searched, turn, turned)


def goods_told(genes):
    """What good answers to every turn of the row."""
    turns = all_turns(len(genes))
    told = asked(BEGIN, row(*genes), *[good(i, j) for i, j in turns])[2:]
    return dict(zip(turns, told))


class Good(unittest.TestCase):
    def test_one_gene(self):
        self.assertEqual(asked(BEGIN, row(-1), good(0, 0)), [[0], [0], [1]])
        self.assertEqual(asked(BEGIN, row(1), good(0, 0)), [[0], [0], [0]])

    def test_one_less(self):
        self.assertEqual(asked(BEGIN, row(1, -3, -2), good(1, 2)), [[0], [0], [1]])
        self.assertEqual(asked(BEGIN, row(1, -2, -3), good(1, 1), good(2, 2)), [[0], [0], [1], [1]])

    def test_not_one_less(self):
        self.assertEqual(asked(BEGIN, row(1, -3, -2), good(0, 0)), [[0], [0], [0]])
        self.assertEqual(asked(BEGIN, row(1, -2, -3), good(0, 0)), [[0], [0], [0]])

    def test_no_turn_of_a_row_in_order(self):
        for n in range(1, 11):
            told = goods_told(tuple(range(1, n + 1)))
            self.assertEqual(set(map(tuple, told.values())), {(0,)})

    def test_a_turn_may_be_good_that_makes_no_cycle_more(self):
        self.assertEqual(asked(BEGIN, row(2, 1), good(0, 0), good(0, 1), good(1, 1))[2:], [[1], [1], [1]])

    def test_a_turn_that_makes_a_cycle_more_but_a_hurdle_too_is_not_good(self):
        for genes, i, j in (((-1, -2, -3), 0, 2), ((-1, 3, 2), 0, 0), ((2, 1, -3), 2, 2)):
            told = asked(BEGIN, row(*genes), good(i, j), PARTS, turn(i, j), PARTS)
            self.assertEqual(told[2], [0], genes)
            self.assertEqual(told[5][1:3], [told[3][1] + 1, told[3][2] + 1], genes)

    def test_every_turn_of_every_row_of_few_genes_as_the_search_tells(self):
        for n in range(1, 6):
            found = searched(n)
            for genes in map(tuple, all_rows(n)):
                for (i, j), told in goods_told(genes).items():
                    expected = 1 if found[turned(genes, i, j)] == found[genes] - 1 else 0
                    self.assertEqual(told, [expected], (genes, i, j))

    def test_every_turn_of_longer_rows_as_distance_tells(self):
        for genes in (TEN, THREE_HURDLES, HARD_BUT_NO_HURDLE, *TWO_HURDLES):
            before = asked(BEGIN, row(*genes), DISTANCE)[-1][0]
            told = goods_told(genes)
            self.assertIn([1], told.values())
            for i, j in all_turns(len(genes)):
                after = asked(BEGIN, row(*genes), turn(i, j), DISTANCE)[-1][0]
                self.assertEqual(told[(i, j)], [1 if after == before - 1 else 0], (genes, i, j))

    def test_turns_of_a_fortress(self):
        told = asked(BEGIN, row(*FORTRESS), good(0, 0), good(1, 3), good(0, 16), good(5, 5), good(17, 17))
        for (i, j), answer in zip(((0, 0), (1, 3), (0, 16), (5, 5)), told[2:]):
            after = asked(BEGIN, row(*FORTRESS), turn(i, j), DISTANCE)[-1][0]
            self.assertEqual(answer, [1 if after == 15 else 0], (i, j))
        self.assertEqual(told[-1], [-1])

    def test_of_the_row_that_is_there_now(self):
        told = asked(BEGIN, row(-1, 2), good(0, 0), turn(0, 0), good(0, 0), turn(1, 1), good(0, 0), good(1, 1))
        self.assertEqual(told, [[0], [0], [1], [0], [0], [0], [0], [1]])

    def test_the_row_stays(self):
        told = asked(BEGIN, row(*TEN), good(0, 0), good(2, 7), good(0, 9), good(9, 0), GENES)
        self.assertEqual(told[-1], [10] + TEN)


class Refused(unittest.TestCase):
    def refused(self, genes, i, j):
        told = asked(BEGIN, row(*genes), good(i, j), GENES)
        self.assertEqual(told, [[0], [0], [-1], [len(genes)] + genes], (genes, i, j))

    def test_i_or_j_is_no_place(self):
        for i, j in ((-1, 0), (-1, 2), (-1, -1), (-3, -1), (0, -1), (0, 3), (2, 3), (3, 3), (3, 4), (-1, 3), (4, 2)):
            self.refused([3, -1, 2], i, j)

    def test_j_is_below_i(self):
        for i, j in ((1, 0), (2, 0), (2, 1)):
            self.refused([3, -1, 2], i, j)
            self.refused([1, 2, 3], i, j)

    def test_a_row_of_one_gene(self):
        for i, j in ((-1, -1), (-1, 0), (0, -1), (0, 1), (1, 0), (1, 1)):
            self.refused([-1], i, j)
            self.refused([1], i, j)

    def test_the_ends_of_what_may_be_handed_in(self):
        for far in (LEAST, MOST):
            for other in (LEAST, MOST, 0, 1, 2, -1):
                self.refused([3, -1, 2], far, other)
                self.refused([3, -1, 2], other, far)

    def test_all_about_the_rows_ends(self):
        for n in range(1, 6):
            genes = [-gene for gene in range(1, n + 1)]
            for i in range(-n - 2, n + 3):
                for j in range(-n - 2, n + 3):
                    if i < 0 or j < 0 or i >= n or j >= n or j < i:
                        self.refused(genes, i, j)


if __name__ == "__main__":
    unittest.main()
