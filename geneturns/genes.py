"""A row of genes, and the calls of a line that are made on it."""

BEGIN = 0
ROW = 1
GENES = 2
TURN = 3
UNDO = 4
GOOD = 7

DONE = 0
REFUSED = -1
NO_ROW = -4

MOST_GENES = 32


class CallNotThere(ValueError):
    """A call was made that this program doesn't have."""


def signed(number):
    """The number that is handed in modulo 2 ** 32, with its sign again."""
    if number >= 2 ** 31:
        return number - 2 ** 32
    return number


def is_row(genes):
    """Whether genes has each of 1 to n once, with or without a minus, and n is no number that is refused."""
    if len(genes) < 1 or len(genes) > MOST_GENES:
        return False
    return sorted([abs(gene) for gene in genes]) == list(range(1, len(genes) + 1))


def is_stretch(row, i, j):
    """Whether i and j are places of the row and j isn't below i."""
    return i >= 0 and j >= i and j < len(row)


def turned(row, i, j):
    """The row with its genes from place i to place j in the other order, each with the other sign."""
    return row[:i] + [-gene for gene in reversed(row[i:j + 1])] + row[j + 1:]


def undone(row):
    """What undoes the row."""
    result = [0] * len(row)
    for place, gene in enumerate(row):
        if gene > 0:
            result[gene - 1] = place + 1
        else:
            result[-gene - 1] = -(place + 1)
    return result


class Line:
    """What the calls of a line are made on: it keeps the row, None while there is none."""

    def __init__(self):
        self.row = None

    def answer(self, call):
        """The numbers that are answered to a call, which is its number and what is handed in behind it."""
        if call[0] == BEGIN:
            return self.begin()
        if call[0] == ROW:
            return self.take_row([signed(number) for number in call[2:]])
        # This stands ahead of what the other calls refuse, and holds for every one of them.
        if self.row is None:
            return [NO_ROW]
        return self.answer_of_row(call)

    def answer_of_row(self, call):
        """The same of a call that needs a row, while there is one."""
        if call[0] == GENES:
            return [len(self.row)] + self.row
        if call[0] == TURN:
            return self.turn(call[1], call[2])
        if call[0] == UNDO:
            return self.undo()
        raise CallNotThere(call[0])

    def begin(self):
        """From now on there is no row."""
        self.row = None
        return [DONE]

    def take_row(self, genes):
        """From now on genes is the row, if it's one."""
        if not is_row(genes):
            return [REFUSED]
        self.row = genes
        return [DONE]

    def turn(self, i, j):
        """The genes from place i to place j are turned."""
        if not is_stretch(self.row, i, j):
            return [REFUSED]
        self.row = turned(self.row, i, j)
        return [DONE]

    def undo(self):
        """From now on the row is what undoes it."""
        self.row = undone(self.row)
        return [DONE]


def call_length(calls, start):
    """How many numbers the call that begins at start has, its own number among them."""
    if calls[start] == ROW:
        return 2 + calls[start + 1]
    if calls[start] == TURN or calls[start] == GOOD:
        return 3
    return 1


def answers(calls):
    """What the calls of a line answer, each answer with how many numbers it has before it."""
    line = Line()
    told = []
    start = 0
    while start < len(calls):
        end = start + call_length(calls, start)
        answer = line.answer(calls[start:end])
        told.append(len(answer))
        told.extend(answer)
        start = end
    return told
