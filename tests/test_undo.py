"""Promise 5: undo."""

import unittest

from lines import BEGIN, GENES, UNDO, all_rows, asked, genes_after, row, turn


class Undo(unittest.TestCase):
    def test_one_gene(self):
        self.assertEqual(asked(BEGIN, row(1), UNDO, GENES), [[0], [0], [0], [1, 1]])
        self.assertEqual(asked(BEGIN, row(-1), UNDO, GENES), [[0], [0], [0], [1, -1]])

    def test_without_minus(self):
        self.assertEqual(genes_after(row(2, 3, 1), UNDO), [3, 3, 1, 2])
        self.assertEqual(genes_after(row(4, 1, 3, 2), UNDO), [4, 2, 4, 3, 1])

    def test_with_minus(self):
        self.assertEqual(genes_after(row(-2, 3, 1), UNDO), [3, 3, -1, 2])
        self.assertEqual(genes_after(row(2, -3, -1), UNDO), [3, -3, 1, -2])
        self.assertEqual(genes_after(row(-4, 1, -3, 2), UNDO), [4, 2, 4, -3, -1])

    def test_in_order_stays_in_order(self):
        genes = list(range(1, 11))
        self.assertEqual(genes_after(row(*genes), UNDO), [10] + genes)

    def test_every_row_of_up_to_four_genes(self):
        for n in range(1, 5):
            for genes in all_rows(n):
                told = asked(BEGIN, row(*genes), UNDO, GENES)
                self.assertEqual(told[2], [0])
                self.assertEqual(told[3][0], n)
                undoing = told[3][1:]
                self.assertEqual(len(undoing), n)
                for k in range(1, n + 1):
                    expected = genes.index(k) + 1 if k in genes else -(genes.index(-k) + 1)
                    self.assertEqual(undoing[k - 1], expected, genes)

    def test_twice_gives_the_row_back(self):
        ten = [4, -7, 1, 10, -2, -9, 3, 8, -5, 6]
        for genes in list(all_rows(3)) + [ten]:
            self.assertEqual(genes_after(row(*genes), UNDO, UNDO), [len(genes)] + genes)

    def test_once_gives_another_row_of_ten_genes(self):
        told = genes_after(row(4, -7, 1, 10, -2, -9, 3, 8, -5, 6), UNDO)
        self.assertEqual(told, [10, 3, -5, 7, 1, -9, 10, -2, 8, -6, 4])

    def test_what_comes_behind_is_done_to_the_undoing_row(self):
        told = asked(BEGIN, row(2, 3, 1), UNDO, turn(0, 1), GENES)
        self.assertEqual(told, [[0], [0], [0], [0], [3, -1, -3, 2]])


if __name__ == "__main__":
    unittest.main()
