"""Promise 6: distance."""

import unittest

from lines import (
    BEGIN, DISTANCE, FORTRESS, FOUR_HURDLES, GENES, HARD_BUT_NO_HURDLE, TEN, THREE_HURDLES, THREE_HURDLES_ONE_PLAIN,
    TWO_HURDLES, UNDO, all_rows, asked, row, searched, turn)


class Distance(unittest.TestCase):
    def assert_distance(self, genes, expected):
        self.assertEqual(asked(BEGIN, row(*genes), DISTANCE), [[0], [0], [expected]], genes)

    def test_one_gene(self):
        self.assert_distance([1], 0)
        self.assert_distance([-1], 1)

    def test_in_order(self):
        for n in range(1, 33):
            self.assert_distance(list(range(1, n + 1)), 0)

    def test_the_whole_row_the_other_way_round(self):
        for n in range(1, 33):
            self.assert_distance(list(range(-n, 0)), 1)

    def test_each_gene_the_other_way_round_where_it_stands(self):
        for n in range(1, 11):
            self.assert_distance([-gene for gene in range(1, n + 1)], n)

    def test_without_minus(self):
        self.assert_distance([2, 1], 3)
        self.assert_distance([3, 2, 1], 3)
        self.assert_distance([2, 3, 1], 3)
        self.assert_distance([1, 3, 2, 4], 3)

    def test_cabbage_and_turnip(self):
        self.assert_distance([1, -5, 4, -3, 2], 3)

    def test_several_hurdles(self):
        for genes in TWO_HURDLES:
            self.assert_distance(genes, 6)
        self.assert_distance(THREE_HURDLES, 9)

    def test_hard_crowds_that_are_no_hurdles(self):
        self.assert_distance(HARD_BUT_NO_HURDLE, 8)

    def test_a_fortress(self):
        self.assert_distance(FORTRESS, 16)

    def test_hurdles_that_make_no_fortress(self):
        self.assert_distance(THREE_HURDLES_ONE_PLAIN, 13)
        self.assert_distance(FOUR_HURDLES, 20)

    def test_as_the_search_of_all_turns_tells(self):
        for n in range(1, 7):
            found = searched(n)
            rows = list(all_rows(n))
            self.assertEqual(len(found), len(rows))
            for genes in rows:
                self.assert_distance(genes, found[tuple(genes)])

    def test_what_undoes_a_row_is_as_far(self):
        for genes in [TEN, FORTRESS, HARD_BUT_NO_HURDLE, THREE_HURDLES, FOUR_HURDLES]:
            told = asked(BEGIN, row(*genes), DISTANCE, UNDO, DISTANCE)
            self.assertEqual(told[2], told[4], genes)

    def test_of_the_row_that_is_there_now(self):
        told = asked(BEGIN, row(2, 1), DISTANCE, turn(0, 1), DISTANCE, row(-1), DISTANCE, row(1, 1), DISTANCE)
        self.assertEqual(told, [[0], [0], [3], [0], [2], [0], [1], [-1], [1]])

    def test_the_row_stays(self):
        told = asked(BEGIN, row(*TEN), DISTANCE, GENES, DISTANCE)
        self.assertEqual(told[3], [10] + TEN)
        self.assertEqual(told[2], told[4])


if __name__ == "__main__":
    unittest.main()
