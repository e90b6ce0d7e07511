"""Promise 7: parts."""

import unittest

from lines import (
    BEGIN, DISTANCE, FORTRESS, FOUR_HURDLES, GENES, HARD_BUT_NO_HURDLE, PARTS, TEN, THREE_HURDLES,
    THREE_HURDLES_ONE_PLAIN, TWO_HURDLES, all_rows, asked, row, searched, turn)


def breaks_told(genes):
    """Two genes side by side are no break if the second is the next one behind the first."""
    framed = [0] + genes + [len(genes) + 1]
    return len([1 for gene, following in zip(framed, framed[1:]) if following != gene + 1])


def cycles_told(genes):
    """Ends that meet or should meet are put into one group, until nothing is left to be put together."""
    ends = [0]
    for gene in genes:
        pair = [2 * abs(gene) - 1, 2 * abs(gene)]
        ends += pair if gene > 0 else pair[::-1]
    ends.append(2 * len(genes) + 1)
    group = {end: end for end in ends}
    pairs = list(zip(ends[::2], ends[1::2])) + [(end, end + 1) for end in range(0, len(ends), 2)]
    for one, other in pairs:
        old, new = group[one], group[other]
        group = {end: new if number == old else number for end, number in group.items()}
    return len(set(group.values()))


class Parts(unittest.TestCase):
    def assert_parts(self, genes, cycles, hurdles, fortress, breaks):
        told = asked(BEGIN, row(*genes), PARTS)
        self.assertEqual(told, [[0], [0], [0, cycles, hurdles, fortress, breaks]], genes)

    def test_one_gene(self):
        self.assert_parts([1], 2, 0, 0, 0)
        self.assert_parts([-1], 1, 0, 0, 2)

    def test_in_order(self):
        for n in range(1, 33):
            self.assert_parts(list(range(1, n + 1)), n + 1, 0, 0, 0)

    def test_the_whole_row_the_other_way_round(self):
        for n in range(1, 33):
            self.assert_parts(list(range(-n, 0)), n, 0, 0, 2)

    def test_with_minus_and_no_hurdle(self):
        self.assert_parts([2, -1], 1, 0, 0, 3)
        self.assert_parts([-2, 1], 1, 0, 0, 3)
        self.assert_parts([1, -5, 4, -3, 2], 3, 0, 0, 5)

    def test_one_hurdle(self):
        self.assert_parts([2, 1], 1, 1, 0, 3)
        self.assert_parts([3, 2, 1], 2, 1, 0, 4)
        self.assert_parts([1, 3, 2, 4], 3, 1, 0, 3)

    def test_a_crowd_that_is_not_hard_parts_no_hurdle(self):
        self.assert_parts([2, -3, 4, 1], 2, 1, 0, 5)
        self.assert_parts([2, -3, 4, 1, 5, -6], 3, 1, 0, 7)

    def test_ends_that_meet_as_they_should_part_no_hurdle(self):
        self.assert_parts([3, 4, 1, 2], 3, 1, 0, 3)
        self.assert_parts([1, 4, 5, 2, 3, 6], 5, 1, 0, 3)

    def test_two_hurdles(self):
        for genes in TWO_HURDLES:
            self.assert_parts(genes, 2, 2, 0, 6)

    def test_three_hurdles(self):
        self.assert_parts(THREE_HURDLES, 3, 3, 0, 9)

    def test_ten_genes_with_three_hurdles(self):
        self.assert_parts([2, 1, 3, 5, 4, 6, 8, 7, 9, 10], 5, 3, 0, 9)
        self.assert_parts([2, 1, 3, 5, 4, 6, 8, 7, 9, -10], 4, 3, 0, 11)

    def test_a_hard_crowd_that_is_no_hurdle(self):
        self.assert_parts(HARD_BUT_NO_HURDLE, 3, 2, 0, 9)

    def test_a_fortress(self):
        self.assert_parts(FORTRESS, 6, 3, 1, 18)

    def test_a_fortress_among_other_genes(self):
        self.assert_parts(FORTRESS + [18, 19, -20], 8, 3, 1, 20)

    def test_no_fortress_if_one_hurdle_holds_nothing_back(self):
        self.assert_parts(THREE_HURDLES_ONE_PLAIN, 5, 3, 0, 15)

    def test_no_fortress_if_the_hurdles_are_even_in_number(self):
        self.assert_parts(FOUR_HURDLES, 8, 4, 0, 24)

    def test_cycles_and_breaks_of_every_row_of_few_genes_and_hurdles_by_the_distance(self):
        for n in range(1, 6):
            found = searched(n)
            for genes in all_rows(n):
                cycles = cycles_told(genes)
                # So few genes make no fortress, so that what the cycles leave over of the distance are hurdles.
                self.assert_parts(genes, cycles, found[tuple(genes)] - (n + 1 - cycles), 0, breaks_told(genes))

    def test_cycles_and_breaks_of_longer_rows(self):
        for genes in (TEN, list(range(10, 0, -1)), FORTRESS, list(range(32, 0, -1))):
            told = asked(BEGIN, row(*genes), PARTS)[2]
            self.assertEqual((told[1], told[4]), (cycles_told(genes), breaks_told(genes)), genes)

    def test_the_distance_is_made_of_them(self):
        for genes in (TEN, FORTRESS, FOUR_HURDLES, THREE_HURDLES, HARD_BUT_NO_HURDLE, [2, 1], [-1], [1]):
            told = asked(BEGIN, row(*genes), PARTS, DISTANCE)
            done, cycles, hurdles, fortress, breaks = told[2]
            self.assertEqual(told[3], [len(genes) + 1 - cycles + hurdles + fortress], genes)

    def test_of_the_row_that_is_there_now(self):
        told = asked(BEGIN, row(2, 1), PARTS, turn(0, 1), PARTS, row(1), PARTS)
        self.assertEqual(told[2::2], [[0, 1, 1, 0, 3], [0, 1, 0, 0, 3], [0, 2, 0, 0, 0]])

    def test_the_row_stays(self):
        told = asked(BEGIN, row(*TEN), PARTS, GENES, PARTS)
        self.assertEqual(told[3], [10] + TEN)
        self.assertEqual(told[2], told[4])


if __name__ == "__main__":
    unittest.main()
