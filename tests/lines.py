"""Lines of calls, written by name, as the program takes and answers them."""

import itertools

from geneturns.genes import answers

BEGIN = [0]
GENES = [2]
UNDO = [4]
DISTANCE = [5]
PARTS = [6]
PATH = [8]

LEAST = -2147483648
MOST = 2147483647


def row(*genes):
    return [1, len(genes)] + [gene % 2 ** 32 for gene in genes]


def raw_row(*numbers):
    """A row whose numbers are handed in just as they stand."""
    return [1, len(numbers)] + list(numbers)


def turn(i, j):
    return [3, i, j]


def good(i, j):
    return [7, i, j]


def joined(calls):
    return [number for call in calls for number in call]


def asked(*calls):
    """The answers to the calls, a list of numbers for each."""
    told = answers(joined(calls))
    parts = []
    start = 0
    while start < len(told):
        end = start + 1 + told[start]
        if told[start] < 1 or end > len(told):
            raise AssertionError(f"no answer has so many numbers: {told}")
        parts.append(told[start + 1:end])
        start = end
    if len(parts) != len(calls):
        raise AssertionError(f"{len(calls)} calls, but {len(parts)} answers: {told}")
    return parts


def genes_after(*calls):
    """What genes answers behind begin and these calls."""
    return asked(BEGIN, *calls, GENES)[-1]


def all_rows(n):
    """Every row of n genes."""
    for order in itertools.permutations(range(1, n + 1)):
        for signs in itertools.product((1, -1), repeat=n):
            yield [gene * sign for gene, sign in zip(order, signs)]
