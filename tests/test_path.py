"""Promise 9: path."""

import time
import unittest

from lines import (
    BEGIN, DISTANCE, FORTRESS, FOUR_HURDLES, GENES, HARD_BUT_NO_HURDLE, PARTS, PATH, TEN, THREE_HURDLES, TWO_HURDLES,
    all_rows, all_turns, asked, good, row, searched, turn, turned)

# It takes well under a second; the rest is for machines that are slow or busy.
GOOD_TIME = 10

TENS = (
    TEN,
    [-gene for gene in range(1, 11)],
    list(range(10, 0, -1)),
    [2, 1, 3, 5, 4, 6, 8, 7, 9, -10],
    [1] + [gene + 1 for gene in HARD_BUT_NO_HURDLE] + [10],
    [1, 2, 3, 6, 5, 7, 9, 8, 4, 10],
)


def path_told(genes):
    """The turns that path tells."""
    told = asked(BEGIN, row(*genes), PATH)[-1]
    if told[0] != len(told) - 1 or told[0] % 2:
        raise AssertionError(f"not as many numbers as are told: {told}")
    return list(zip(told[1::2], told[2::2]))


def path_searched(genes):
    """The first of the turns that leave a distance that's one less, one after another, by the search of all turns."""
    found = searched(len(genes))
    path = []
    while found[genes] > 0:
        i, j = next(
            (i, j) for i, j in all_turns(len(genes)) if found[turned(genes, i, j)] == found[genes] - 1)
        path.append((i, j))
        genes = turned(genes, i, j)
    return path


def distance_told(genes):
    return asked(BEGIN, row(*genes), DISTANCE)[-1][0]


class Path(unittest.TestCase):
    def test_one_gene(self):
        self.assertEqual(asked(BEGIN, row(1), PATH), [[0], [0], [0]])
        self.assertEqual(asked(BEGIN, row(-1), PATH), [[0], [0], [2, 0, 0]])

    def test_in_order(self):
        for n in range(1, 33):
            self.assertEqual(asked(BEGIN, row(*range(1, n + 1)), PATH), [[0], [0], [0]])

    def test_one_turn(self):
        self.assertEqual(asked(BEGIN, row(1, -4, -3, -2, 5), PATH), [[0], [0], [2, 1, 3]])
        self.assertEqual(asked(BEGIN, row(*range(-10, 0)), PATH), [[0], [0], [2, 0, 9]])

    def test_how_many_numbers_and_they(self):
        self.assertEqual(asked(BEGIN, row(2, 1), PATH), [[0], [0], [6, 0, 0, 0, 1, 0, 0]])
        self.assertEqual(asked(BEGIN, row(1, -2, -3), PATH), [[0], [0], [4, 1, 1, 2, 2]])

    def test_the_least_i_then_the_least_j(self):
        self.assertEqual(path_told([-1, -2, -3, -4]), [(0, 0), (1, 1), (2, 2), (3, 3)])
        self.assertEqual(path_told([2, 1]), [(0, 0), (0, 1), (0, 0)])

    def test_the_least_i_goes_ahead_of_the_least_j(self):
        told = asked(BEGIN, row(1, -4, 3, -2), good(1, 1), good(1, 2), good(1, 3), good(2, 2), PATH)
        self.assertEqual(told[2:6], [[0], [0], [1], [1]])
        self.assertEqual(told[6][1:3], [1, 3])

    def test_every_row_of_few_genes_as_the_search_tells(self):
        for n in range(1, 6):
            for genes in map(tuple, all_rows(n)):
                self.assertEqual(path_told(genes), path_searched(genes), genes)

    def test_always_the_first_good_turn_of_longer_rows(self):
        for genes in (THREE_HURDLES, HARD_BUT_NO_HURDLE, *TWO_HURDLES, *TENS):
            now = tuple(genes)
            turns = all_turns(len(genes))
            for chosen in path_told(genes):
                told = asked(BEGIN, row(*now), *[good(i, j) for i, j in turns])[2:]
                self.assertEqual(turns[told.index([1])], chosen, now)
                now = turned(now, *chosen)

    def test_as_many_turns_as_the_distance_put_it_in_order(self):
        for genes in (THREE_HURDLES, HARD_BUT_NO_HURDLE, FORTRESS, FOUR_HURDLES, *TWO_HURDLES, *TENS):
            path = path_told(genes)
            self.assertEqual(len(path), distance_told(genes), genes)
            told = asked(BEGIN, row(*genes), *[turn(i, j) for i, j in path], GENES, DISTANCE)
            self.assertEqual(told[-2:], [[len(genes)] + list(range(1, len(genes) + 1)), [0]], genes)

    def test_each_turn_of_a_fortress_leaves_one_less(self):
        now = tuple(FORTRESS)
        left = distance_told(now)
        for i, j in path_told(FORTRESS):
            self.assertEqual(asked(BEGIN, row(*now), good(i, j))[-1], [1])
            now = turned(now, i, j)
            left -= 1
            self.assertEqual(distance_told(now), left)

    def test_of_the_row_that_is_there_now(self):
        told = asked(BEGIN, row(1, -2), PATH, turn(1, 1), PATH, row(-1), PATH)
        self.assertEqual(told, [[0], [0], [2, 1, 1], [0], [0], [0], [2, 0, 0]])

    def test_the_row_stays(self):
        told = asked(BEGIN, row(*TEN), PATH, GENES, PATH, DISTANCE)
        self.assertEqual(told[3], [10] + TEN)
        self.assertEqual(told[2], told[4])
        self.assertEqual(told[5], [told[2][0] // 2])


class InGoodTime(unittest.TestCase):
    def assert_in_good_time(self, calls):
        self.assertEqual(len(calls), 60)
        start = time.perf_counter()
        asked(*calls)
        self.assertLess(time.perf_counter() - start, GOOD_TIME)

    def test_sixty_calls_with_rows_of_ten_genes_and_three_paths(self):
        for at in range(0, len(TENS), 3):
            calls = [BEGIN]
            for genes in TENS[at:at + 3]:
                calls += [row(*genes), PATH]
            calls += [good(0, 9), good(3, 5), DISTANCE, PARTS] * 13 + [DISTANCE]
            self.assert_in_good_time(calls)

    def test_of_good_alone(self):
        calls = [BEGIN, row(*TEN)] + [good(i, j) for i, j in all_turns(10)] + [PATH] * 3
        self.assert_in_good_time(calls)


if __name__ == "__main__":
    unittest.main()
