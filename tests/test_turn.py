"""Promise 4: turn."""

import unittest

from lines import BEGIN, GENES, LEAST, MOST, UNDO, all_rows, asked, genes_after, row, turn


def gene_after_turn(genes, i, j, place):
    """What stands at a place when the genes from i to j are turned."""
    if place < i or place > j:
        return genes[place]
    return -genes[i + j - place]


class Turned(unittest.TestCase):
    def test_one_gene(self):
        self.assertEqual(asked(BEGIN, row(1), turn(0, 0), GENES), [[0], [0], [0], [1, -1]])
        self.assertEqual(genes_after(row(3, -1, 2), turn(1, 1)), [3, 3, 1, 2])

    def test_several(self):
        self.assertEqual(genes_after(row(3, -1, 2, 4), turn(1, 2)), [4, 3, -2, 1, 4])
        self.assertEqual(genes_after(row(3, -1, 2, 4), turn(0, 2)), [4, -2, 1, -3, 4])
        self.assertEqual(genes_after(row(3, -1, 2, 4), turn(2, 3)), [4, 3, -1, -4, -2])

    def test_the_whole_row(self):
        self.assertEqual(genes_after(row(3, -1, 2, 4), turn(0, 3)), [4, -4, -2, 1, -3])
        self.assertEqual(genes_after(row(*range(1, 11)), turn(0, 9)), [10] + list(range(-10, 0)))

    def test_one_behind_another(self):
        told = asked(BEGIN, row(1, 2, 3), turn(0, 1), GENES, turn(1, 2), GENES, turn(2, 2), GENES)
        self.assertEqual(told[3::2], [[3, -2, -1, 3], [3, -2, -3, 1], [3, -2, -3, -1]])

    def test_every_turn_of_every_row_of_up_to_four_genes(self):
        for n in range(1, 5):
            for genes in all_rows(n):
                for i in range(n):
                    for j in range(i, n):
                        expected = [gene_after_turn(genes, i, j, place) for place in range(n)]
                        told = asked(BEGIN, row(*genes), turn(i, j), GENES)
                        self.assertEqual(told, [[0], [0], [0], [n] + expected], (genes, i, j))

    def test_every_turn_of_a_row_of_ten_genes_made_twice_gives_it_back(self):
        genes = [4, -7, 1, 10, -2, -9, 3, 8, -5, 6]
        for i in range(10):
            for j in range(i, 10):
                expected = [gene_after_turn(genes, i, j, place) for place in range(10)]
                told = asked(BEGIN, row(*genes), turn(i, j), GENES, turn(i, j), GENES)
                self.assertEqual(told[2:], [[0], [10] + expected, [0], [10] + genes], (i, j))

    def test_the_places_are_those_of_the_row_that_is_there_now(self):
        told = asked(BEGIN, row(1, 2, 3), row(2, 1), turn(0, 2), turn(0, 1), GENES)
        self.assertEqual(told, [[0], [0], [0], [-1], [0], [2, -1, -2]])


class Refused(unittest.TestCase):
    def refused(self, genes, i, j):
        told = asked(BEGIN, row(*genes), turn(i, j), GENES)
        self.assertEqual(told, [[0], [0], [-1], [len(genes)] + genes], (genes, i, j))

    def test_i_or_j_is_no_place(self):
        for i, j in ((-1, 0), (-1, 2), (-1, -1), (-3, -1), (0, -1), (0, 3), (2, 3), (3, 3), (3, 4), (-1, 3), (4, 2)):
            self.refused([3, -1, 2], i, j)

    def test_j_is_below_i(self):
        for i, j in ((1, 0), (2, 0), (2, 1)):
            self.refused([3, -1, 2], i, j)

    def test_a_row_of_one_gene(self):
        for i, j in ((-1, -1), (-1, 0), (0, -1), (0, 1), (1, 0), (1, 1)):
            self.refused([-1], i, j)

    def test_the_ends_of_what_may_be_handed_in(self):
        for far in (LEAST, MOST):
            for other in (LEAST, MOST, 0, 1, 2, -1):
                self.refused([3, -1, 2], far, other)
                self.refused([3, -1, 2], other, far)

    def test_all_about_the_rows_ends(self):
        for n in range(1, 6):
            genes = [-gene for gene in range(1, n + 1)]
            for i in range(-n - 2, n + 3):
                for j in range(-n - 2, n + 3):
                    if i < 0 or j < 0 or i >= n or j >= n or j < i:
                        self.refused(genes, i, j)

    def test_changes_nothing_that_came_before(self):
        told = asked(BEGIN, row(1, 2, 3), turn(0, 1), turn(1, 0), turn(0, 3), UNDO, turn(-1, 2), GENES)
        self.assertEqual(told, [[0], [0], [0], [-1], [-1], [0], [-1], [3, -2, -1, 3]])


if __name__ == "__main__":
    unittest.main()
