"""Promise 1: begin, and what the others answer while there is no row."""

import unittest

from lines import BEGIN, DISTANCE, GENES, LEAST, MOST, PARTS, PATH, UNDO, asked, good, row, turn


class Begin(unittest.TestCase):
    def test_answers_0(self):
        self.assertEqual(asked(BEGIN), [[0]])

    def test_again_and_again_answers_0(self):
        self.assertEqual(asked(BEGIN, BEGIN, BEGIN), [[0], [0], [0]])

    def test_takes_the_row_away(self):
        told = asked(BEGIN, row(2, -1), GENES, BEGIN, GENES)
        self.assertEqual(told, [[0], [0], [2, 2, -1], [0], [-4]])

    def test_a_row_may_come_behind_it_again(self):
        told = asked(BEGIN, row(2, -1), BEGIN, row(1), GENES)
        self.assertEqual(told, [[0], [0], [0], [0], [1, 1]])


class NoRow(unittest.TestCase):
    def test_genes_turn_and_undo(self):
        self.assertEqual(asked(BEGIN, GENES, turn(0, 0), UNDO), [[0], [-4], [-4], [-4]])

    def test_also_behind_a_begin_that_took_the_row(self):
        told = asked(BEGIN, row(3, 1, 2), BEGIN, GENES, turn(0, 2), UNDO)
        self.assertEqual(told, [[0], [0], [0], [-4], [-4], [-4]])

    def test_goes_ahead_of_what_turn_refuses(self):
        for i, j in ((-1, 0), (0, -1), (1, 0), (LEAST, MOST), (MOST, LEAST), (32, 33)):
            self.assertEqual(asked(BEGIN, turn(i, j)), [[0], [-4]], (i, j))

    def test_distance_parts_good_and_path(self):
        told = asked(BEGIN, DISTANCE, PARTS, good(0, 0), good(1, 0), good(LEAST, MOST), PATH, GENES)
        self.assertEqual(told, [[0]] + [[-4]] * 7)

    def test_these_four_also_behind_a_begin_that_took_the_row(self):
        told = asked(BEGIN, row(3, 1, 2), BEGIN, DISTANCE, PARTS, good(0, 2), PATH)
        self.assertEqual(told, [[0], [0], [0], [-4], [-4], [-4], [-4]])

    def test_these_four_also_behind_a_row_that_was_refused(self):
        told = asked(BEGIN, row(1, 1), DISTANCE, PARTS, good(0, 1), PATH)
        self.assertEqual(told, [[0], [-1], [-4], [-4], [-4], [-4]])

    def test_goes_ahead_of_what_good_refuses(self):
        for i, j in ((-1, 0), (0, -1), (1, 0), (LEAST, MOST), (MOST, LEAST), (32, 33)):
            self.assertEqual(asked(BEGIN, good(i, j)), [[0], [-4]], (i, j))

    def test_row_is_not_refused_so(self):
        self.assertEqual(asked(BEGIN, row()), [[0], [-1]])
        self.assertEqual(asked(BEGIN, row(1)), [[0], [0]])

    def test_a_call_that_is_refused_makes_no_row(self):
        told = asked(BEGIN, turn(0, 0), GENES, UNDO, GENES)
        self.assertEqual(told, [[0], [-4], [-4], [-4], [-4]])

    def test_there_is_none_at_a_lines_beginning(self):
        self.assertEqual(asked(GENES), [[-4]])


if __name__ == "__main__":
    unittest.main()
