"""Promises 2 and 3: row and genes."""

import itertools
import unittest

from lines import BEGIN, GENES, all_rows, asked, genes_after, raw_row, row

REFUSED_NUMBERS = (
    (0,),
    (2,),
    (4294967294,),
    (2147483647,),
    (2147483648,),
    (2147483649,),
    (4294967295, 4294967295),
    (1, 4294967295),
    (4294967295, 1),
    (1, 1),
    (0, 1),
    (1, 0),
    (1, 3),
    (3, 2, 3),
    (1, 2, 2147483648),
    (2147483648, 2147483648),
    (1, 2, 4),
    (1, 2, 4294967292),
    (2, 3, 4),
)


def is_told_a_row(genes):
    """The document's words, read number by number."""
    for k in range(1, len(genes) + 1):
        if genes.count(k) + genes.count(-k) != 1:
            return False
    return len(genes) > 0


class Taken(unittest.TestCase):
    def test_one_gene(self):
        self.assertEqual(asked(BEGIN, row(1), GENES), [[0], [0], [1, 1]])
        self.assertEqual(asked(BEGIN, row(-1), GENES), [[0], [0], [1, -1]])

    def test_a_minus_is_handed_in_modulo_2_32_and_told_with_its_sign(self):
        told = asked(BEGIN, raw_row(4294967295), GENES)
        self.assertEqual(told, [[0], [0], [1, -1]])
        told = asked(BEGIN, raw_row(2, 4294967293, 4294967295), GENES)
        self.assertEqual(told, [[0], [0], [3, 2, -3, -1]])

    def test_every_row_of_up_to_four_genes(self):
        for n in range(1, 5):
            for genes in all_rows(n):
                self.assertEqual(asked(BEGIN, row(*genes), GENES), [[0], [0], [n] + genes], genes)

    def test_rows_of_up_to_ten_genes(self):
        for n in range(5, 11):
            in_order = list(range(1, n + 1))
            backward = [-gene for gene in reversed(in_order)]
            mixed = [gene if gene % 3 else -gene for gene in in_order[n // 2:] + in_order[:n // 2]]
            for genes in (in_order, backward, mixed):
                self.assertEqual(asked(BEGIN, row(*genes), GENES), [[0], [0], [n] + genes], genes)

    def test_a_row_of_32_genes(self):
        genes = [-gene for gene in range(32, 0, -1)]
        self.assertEqual(genes_after(row(*genes)), [32] + genes)

    def test_in_the_place_of_an_earlier_one(self):
        told = asked(BEGIN, row(3, -1, 2), row(-2, 1), GENES, row(4, 3, 2, 1), GENES)
        self.assertEqual(told, [[0], [0], [0], [2, -2, 1], [0], [4, 4, 3, 2, 1]])

    def test_genes_leaves_the_row(self):
        told = asked(BEGIN, row(3, -1, 2), GENES, GENES)
        self.assertEqual(told[2:], [[3, 3, -1, 2], [3, 3, -1, 2]])


class Refused(unittest.TestCase):
    def test_no_genes_at_all(self):
        self.assertEqual(asked(BEGIN, row()), [[0], [-1]])

    def test_numbers_that_are_no_row(self):
        for numbers in REFUSED_NUMBERS:
            self.assertEqual(asked(BEGIN, raw_row(*numbers)), [[0], [-1]], numbers)

    def test_each_short_list_is_taken_or_refused_as_the_words_say(self):
        for n in range(1, 4):
            for genes in itertools.product(range(-4, 5), repeat=n):
                expected = [0] if is_told_a_row(genes) else [-1]
                self.assertEqual(asked(BEGIN, row(*genes)), [[0], expected], genes)

    def test_a_long_list_with_one_wrong_gene(self):
        for n in (10, 32):
            for wrong in (0, 1, -1, n + 1, -n - 1):
                genes = list(range(1, n)) + [wrong]
                self.assertEqual(asked(BEGIN, row(*genes)), [[0], [-1]], genes)

    def test_more_than_32_genes(self):
        self.assertEqual(asked(BEGIN, row(*range(1, 34))), [[0], [-1]])

    def test_leaves_no_row_where_there_was_none(self):
        for numbers in ((),) + REFUSED_NUMBERS:
            told = asked(BEGIN, raw_row(*numbers), GENES)
            self.assertEqual(told, [[0], [-1], [-4]], numbers)

    def test_leaves_the_earlier_row(self):
        for numbers in ((),) + REFUSED_NUMBERS:
            told = asked(BEGIN, row(2, -3, 1), raw_row(*numbers), GENES)
            self.assertEqual(told, [[0], [0], [-1], [3, 2, -3, 1]], numbers)


if __name__ == "__main__":
    unittest.main()
