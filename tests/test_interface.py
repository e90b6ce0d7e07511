"""The interface: how calls are handed in and answers given back, and what must not happen by the way."""

import ast
import contextlib
import inspect
import io
import pathlib
import unittest

import geneturns
from geneturns.genes import answers
from lines import BEGIN, DISTANCE, FORTRESS, GENES, PARTS, PATH, TEN, UNDO, asked, good, joined, row, turn

LINE = [0, 2, 1, 3, 2, 4294967295, 4294967293, 2, 3, 0, 1, 2, 3, 2, 1, 4, 2, 5, 6, 7, 1, 1, 7, 0, 0, 7, 1, 0, 8, 2,
        1, 0, 0, 4, 5, 6, 7, 0, 0, 8]
ANSWERS = [1, 0, 1, -4, 1, 0, 4, 3, 2, -1, -3, 1, 0, 4, 3, 1, -2, -3, 1, -1,
           1, 0, 4, 3, 1, -2, -3, 1, 2, 5, 0, 2, 0, 0, 3, 1, 1, 1, 0, 1, -1, 5, 4, 1, 1, 2, 2, 4, 3, 1, -2, -3,
           1, -1, 1, 0, 1, -4, 1, -4, 1, -4, 1, -4, 1, -4]


class Untouchable(list):
    """A list that tells of every try to change it, even one that would be made good again."""

    def refuse(self, *arguments, **named):
        raise AssertionError("what was handed in is changed")

    __setitem__ = __delitem__ = __iadd__ = __imul__ = refuse
    append = extend = insert = pop = remove = clear = sort = reverse = refuse


def package_files():
    return sorted(pathlib.Path(geneturns.__file__).parent.glob("*.py"))


class Form(unittest.TestCase):
    def test_the_one_argument_is_called_calls(self):
        self.assertEqual(list(inspect.signature(answers).parameters), ["calls"])
        self.assertEqual(answers(calls=[0]), [1, 0])

    def test_number_by_number(self):
        self.assertEqual(answers(LINE), ANSWERS)

    def test_one_call(self):
        self.assertEqual(answers([0]), [1, 0])

    def test_a_refusal_is_its_number_alone(self):
        self.assertEqual(answers([0, 1, 0]), [1, 0, 1, -1])
        self.assertEqual(answers([0, 2]), [1, 0, 1, -4])
        self.assertEqual(answers([0, 1, 1, 1, 3, 0, 1]), [1, 0, 1, 0, 1, -1])
        self.assertEqual(answers([0, 1, 1, 1, 7, 0, 1]), [1, 0, 1, 0, 1, -1])
        self.assertEqual(answers([0, 5, 6, 7, 0, 1, 8]), [1, 0, 1, -4, 1, -4, 1, -4, 1, -4])

    def test_how_many_numbers_stands_before_each_answer(self):
        told = answers([0, 1, 2, 2, 1, 5, 6, 7, 0, 0, 8])
        self.assertEqual(told, [1, 0, 1, 0, 1, 3, 5, 0, 1, 1, 0, 3, 1, 1, 7, 6, 0, 0, 0, 1, 0, 0])
        self.assertEqual(answers([0, 1, 1, 1, 8]), [1, 0, 1, 0, 1, 0])

    def test_what_is_given_back_is_a_list_of_whole_numbers(self):
        told = answers(LINE)
        self.assertIs(type(told), list)
        for number in told:
            self.assertIs(type(number), int)

    def test_so_it_is_with_a_fortress_and_without(self):
        for genes in (FORTRESS, TEN, [1]):
            for number in answers(joined([BEGIN, row(*genes), DISTANCE, PARTS, good(0, 0), PATH])):
                self.assertIs(type(number), int)

    def test_numbers_of_a_refused_row_are_not_taken_for_calls(self):
        self.assertEqual(answers([0, 1, 3, 0, 2, 4, 2]), [1, 0, 1, -1, 1, -4])

    def test_sixty_calls(self):
        calls = [BEGIN, row(*range(1, 11))] + [turn(0, 9), UNDO] * 28 + [turn(0, 0), GENES]
        told = asked(*calls)
        self.assertEqual(len(calls), 60)
        self.assertEqual(told[:-1], [[0]] * 59)
        self.assertEqual(told[-1], [10, -1] + list(range(2, 11)))


class Kept(unittest.TestCase):
    def test_what_is_handed_in_stays(self):
        calls = list(LINE)
        answers(calls)
        self.assertEqual(calls, LINE)

    def test_not_changed_for_a_while_either(self):
        self.assertEqual(answers(Untouchable(LINE)), ANSWERS)

    def test_twice_the_same(self):
        self.assertEqual(answers(LINE), answers(LINE))

    def test_nothing_from_one_time_to_the_next(self):
        answers([0, 1, 2, 2, 1])
        self.assertEqual(answers([2]), [1, -4])

    def test_what_was_given_back_may_be_changed(self):
        answers(LINE).clear()
        self.assertEqual(answers(LINE), ANSWERS)


class ByTheWay(unittest.TestCase):
    def test_prints_nothing(self):
        out = io.StringIO()
        with contextlib.redirect_stdout(out), contextlib.redirect_stderr(out):
            answers(LINE)
        self.assertEqual(out.getvalue(), "")

    def test_imports_nothing(self):
        for file in package_files():
            for node in ast.walk(ast.parse(file.read_text())):
                self.assertNotIsInstance(node, (ast.Import, ast.ImportFrom), file)

    def test_a_list_of_the_greatest_length_is_gone_through_by_loops(self):
        # Not assertEqual: to tell how such long lists differ would take it minutes.
        self.assertTrue(answers([0] * 30000) == [1, 0] * 30000)
        rows = joined([BEGIN] + [row(*range(1, 33))] * 880)
        self.assertTrue(answers(rows) == [1, 0] * 881)


if __name__ == "__main__":
    unittest.main()
