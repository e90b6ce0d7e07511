"""Lines of calls, written by name, as the program takes and answers them; and a search that tries all turns."""

import functools
import itertools

from geneturns.genes import answers

BEGIN = [0]
GENES = [2]
UNDO = [4]
DISTANCE = [5]
PARTS = [6]
PATH = [8]

LEAST = -2147483648
MOST = 2147483647


def row(*genes):
    return [1, len(genes)] + [gene % 2 ** 32 for gene in genes]


def raw_row(*numbers):
    """A row whose numbers are handed in just as they stand."""
    return [1, len(numbers)] + list(numbers)


def turn(i, j):
    return [3, i, j]


def good(i, j):
    return [7, i, j]


def joined(calls):
    return [number for call in calls for number in call]


def asked(*calls):
    """The answers to the calls, a list of numbers for each."""
    told = answers(joined(calls))
    parts = []
    start = 0
    while start < len(told):
        end = start + 1 + told[start]
        if told[start] < 1 or end > len(told):
            raise AssertionError(f"no answer has so many numbers: {told}")
        parts.append(told[start + 1:end])
        start = end
    if len(parts) != len(calls):
        raise AssertionError(f"{len(calls)} calls, but {len(parts)} answers: {told}")
    return parts


def genes_after(*calls):
    """What genes answers behind begin and these calls."""
    return asked(BEGIN, *calls, GENES)[-1]


def all_rows(n):
    """Every row of n genes."""
    for order in itertools.permutations(range(1, n + 1)):
        for signs in itertools.product((1, -1), repeat=n):
            yield [gene * sign for gene, sign in zip(order, signs)]


def all_turns(n):
    """Every turn of a row of n genes, by the least i, then by the least j."""
    return [(i, j) for i in range(n) for j in range(i, n)]


def turned(genes, i, j):
    return genes[:i] + tuple(-gene for gene in genes[i:j + 1][::-1]) + genes[j + 1:]


@functools.lru_cache(maxsize=None)
def searched(n):
    """The distance of every row of n genes (a tuple), found by making all turns from the row in order on."""
    found = {tuple(range(1, n + 1)): 0}
    reached = list(found)
    for genes in reached:
        for i, j in all_turns(n):
            other = turned(genes, i, j)
            if other not in found:
                found[other] = found[genes] + 1
                reached.append(other)
    return found


# Two stretches 2 1 side by side, and one of them within another.
TWO_HURDLES = ([2, 1, 3, 5, 4], [2, 4, 3, 5, 1])

THREE_HURDLES = [2, 1, 3, 5, 4, 6, 8, 7]

# Two hurdles lie within a third hard crowd, each in a gap of its own, so that the third is none.
HARD_BUT_NO_HURDLE = [5, 7, 6, 8, 1, 3, 2, 4]

# Three times a hurdle within a hard crowd that is none for it: the fewest genes that make a fortress.
FORTRESS = [2, 4, 3, 5, 1, 6, 8, 10, 9, 11, 7, 12, 14, 16, 15, 17, 13]

# Here the third hurdle holds nothing back.
THREE_HURDLES_ONE_PLAIN = [2, 4, 3, 5, 1, 6, 8, 10, 9, 11, 7, 12, 14, 13]

# Here each hurdle holds a hard crowd back, but they are even in number.
FOUR_HURDLES = FORTRESS + [18, 20, 22, 21, 23, 19]

TEN = [4, -7, 1, 10, -2, -9, 3, 8, -5, 6]
