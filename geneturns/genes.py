"""A row of genes, how far it is from being in order, and the calls of a line that are made on it."""

BEGIN = 0
ROW = 1
GENES = 2
TURN = 3
UNDO = 4
DISTANCE = 5
PARTS = 6
GOOD = 7
PATH = 8

DONE = 0
REFUSED = -1
NO_ROW = -4

MOST_GENES = 32


class CallNotThere(ValueError):
    """A call was made that this program doesn't have."""


def signed(number):
    """The number that is handed in modulo 2 ** 32, with its sign again."""
    if number >= 2 ** 31:
        return number - 2 ** 32
    return number


def is_row(genes):
    """Whether genes has each of 1 to n once, with or without a minus, and n is no number that is refused."""
    if len(genes) < 1 or len(genes) > MOST_GENES:
        return False
    return sorted([abs(gene) for gene in genes]) == list(range(1, len(genes) + 1))


def is_stretch(row, i, j):
    """Whether i and j are places of the row and j isn't below i."""
    return i >= 0 and j >= i and j < len(row)


def turned(row, i, j):
    """The row with its genes from place i to place j in the other order, each with the other sign."""
    return row[:i] + [-gene for gene in reversed(row[i:j + 1])] + row[j + 1:]


def undone(row):
    """What undoes the row."""
    result = [0] * len(row)
    for place, gene in enumerate(row):
        if gene > 0:
            result[gene - 1] = place + 1
        else:
            result[-gene - 1] = -(place + 1)
    return result


def ends_of(row):
    """All ends of the row, in the order of their places."""
    ends = [0]
    for gene in row:
        if gene > 0:
            ends.extend([2 * gene - 1, 2 * gene])
        else:
            ends.extend([-2 * gene, -2 * gene - 1])
    ends.append(2 * len(row) + 1)
    return ends


def places_of(ends):
    """The place of each end, in the order of the ends' numbers."""
    places = [0] * len(ends)
    for place, end in enumerate(ends):
        places[end] = place
    return places


def partner(number):
    """The other of 2k and 2k+1: of a place, where the end is met; of an end, the one that it should meet."""
    return number ^ 1


def count_breaks(ends):
    """How many pairs of ends meet that shouldn't."""
    return len([i for i in range(0, len(ends), 2) if ends[i + 1] != partner(ends[i])])


def count_cycles(ends, places):
    """How many cycles there are; an end that meets the one that it should is in a cycle of these two."""
    seen = [False] * len(ends)
    cycles = 0
    for first in range(len(ends)):
        if not seen[first]:
            cycles += 1
        end = first
        while not seen[end]:
            met = ends[partner(places[end])]
            seen[end] = True
            seen[met] = True
            end = partner(met)
    return cycles


def bonds_of(places):
    """Each bond as the places of its two ends, the lower one first."""
    return [(min(places[k:k + 2]), max(places[k:k + 2])) for k in range(0, len(places), 2)]


def cross(bond, other):
    """Whether of each of the two bonds just one end's place lies between those of the other's."""
    return bond[0] < other[0] < bond[1] < other[1] or other[0] < bond[0] < other[1] < bond[1]


def crowds_of(bonds):
    """All crowds, each a list of its bonds."""
    crowds = []
    left = bonds
    while len(left) > 0:
        crowd = [left[0]]
        left = left[1:]
        reached = 0
        while reached < len(crowd):
            bond = crowd[reached]
            crowd.extend([other for other in left if cross(bond, other)])
            left = [other for other in left if not cross(bond, other)]
            reached += 1
        crowds.append(crowd)
    return crowds


def is_hard(crowd):
    """Whether of each bond of the crowd the ends don't meet, and one's place is even, the other's odd."""
    for low, high in crowd:
        if high == partner(low) or (high - low) % 2 == 0:
            return False
    return True


def owners_of(crowds):
    """Which crowd, by its number, each place of an end in these crowds belongs to, in the order of the places."""
    owned = []
    for number, crowd in enumerate(crowds):
        for low, high in crowd:
            owned.extend([(low, number), (high, number)])
    return [number for place, number in sorted(owned)]


def hurdles_among(owners):
    """The numbers of the hard crowds that are hurdles, where owners tells whose each place is."""
    stretches = {}
    for at, number in enumerate(owners):
        # Ahead of the first place, at -1, lies the last: the places are gone round.
        begins = 1 if owners[at - 1] != number else 0
        stretches[number] = stretches.get(number, 0) + begins
    # A crowd that is alone has all places, so that none of them begins a stretch.
    return [number for number in stretches if stretches[number] <= 1]


def holds_back(hurdle, hurdles, owners):
    """Whether some hard crowd that is no hurdle would be one if this hurdle weren't there."""
    others = hurdles_among([number for number in owners if number != hurdle])
    return any([number not in hurdles for number in others])


def is_fortress(hurdles, owners):
    """Whether the hurdles are odd in number and each of them holds a hard crowd back."""
    return len(hurdles) % 2 == 1 and all([holds_back(hurdle, hurdles, owners) for hurdle in hurdles])


def parts_of(row):
    """How many cycles, how many hurdles, 1 if there's a fortress (else 0), and how many breaks the row has."""
    ends = ends_of(row)
    places = places_of(ends)
    owners = owners_of([crowd for crowd in crowds_of(bonds_of(places)) if is_hard(crowd)])
    hurdles = hurdles_among(owners)
    fortress = 1 if is_fortress(hurdles, owners) else 0
    return [count_cycles(ends, places), len(hurdles), fortress, count_breaks(ends)]


def distance_of(row):
    """The least number of turns that put the row in order."""
    parts = parts_of(row)
    return len(row) + 1 - parts[0] + parts[1] + parts[2]


def stretches_of(row):
    """Every stretch of the row that may be turned, as (i, j): by the least i, then by the least j."""
    stretches = []
    for i in range(len(row)):
        stretches.extend([(i, j) for j in range(i, len(row))])
    return stretches


def first_good(row, distance):
    """The first stretch whose turn leaves a distance that's one less; distance is the row's own, and not 0."""
    stretches = stretches_of(row)
    at = 0
    # The walk ends within the stretches, as every shortest way begins with such a turn.
    while distance_of(turned(row, stretches[at][0], stretches[at][1])) != distance - 1:
        at += 1
    return stretches[at]


def path_of(row):
    """The turns that put the row in order, i and j of each, always the first one that's good."""
    numbers = []
    for distance in range(distance_of(row), 0, -1):
        stretch = first_good(row, distance)
        numbers.extend(stretch)
        row = turned(row, stretch[0], stretch[1])
    return numbers


class Line:
    """What the calls of a line are made on: it keeps the row, None while there is none."""

    def __init__(self):
        self.row = None

    def answer(self, call):
        """The numbers that are answered to a call, which is its number and what is handed in behind it."""
        if call[0] == BEGIN:
            return self.begin()
        if call[0] == ROW:
            return self.take_row([signed(number) for number in call[2:]])
        # This stands ahead of what the other calls refuse, and holds for every one of them.
        if self.row is None:
            return [NO_ROW]
        return self.answer_of_row(call)

    def answer_of_row(self, call):
        """The same of a call that needs a row, while there is one."""
        if call[0] == GENES:
            return [len(self.row)] + self.row
        if call[0] == TURN:
            return self.turn(call[1], call[2])
        if call[0] == UNDO:
            return self.undo()
        if call[0] == DISTANCE:
            return [distance_of(self.row)]
        if call[0] == PARTS:
            return [DONE] + parts_of(self.row)
        if call[0] == GOOD:
            return self.good(call[1], call[2])
        if call[0] == PATH:
            return self.path()
        raise CallNotThere(call[0])

    def begin(self):
        """From now on there is no row."""
        self.row = None
        return [DONE]

    def take_row(self, genes):
        """From now on genes is the row, if it's one."""
        if not is_row(genes):
            return [REFUSED]
        self.row = genes
        return [DONE]

    def turn(self, i, j):
        """The genes from place i to place j are turned."""
        if not is_stretch(self.row, i, j):
            return [REFUSED]
        self.row = turned(self.row, i, j)
        return [DONE]

    def undo(self):
        """From now on the row is what undoes it."""
        self.row = undone(self.row)
        return [DONE]

    def good(self, i, j):
        """Whether the turn from place i to place j leaves a distance that's one less."""
        if not is_stretch(self.row, i, j):
            return [REFUSED]
        left = distance_of(turned(self.row, i, j))
        return [1 if left == distance_of(self.row) - 1 else 0]

    def path(self):
        """A shortest way that puts the row in order."""
        numbers = path_of(self.row)
        return [len(numbers)] + numbers


def call_length(calls, start):
    """How many numbers the call that begins at start has, its own number among them."""
    if calls[start] == ROW:
        return 2 + calls[start + 1]
    if calls[start] == TURN or calls[start] == GOOD:
        return 3
    return 1


def answers(calls):
    """What the calls of a line answer, each answer with how many numbers it has before it."""
    line = Line()
    told = []
    start = 0
    while start < len(calls):
        end = start + call_length(calls, start)
        answer = line.answer(calls[start:end])
        told.append(len(answer))
        told.extend(answer)
        start = end
    return told
