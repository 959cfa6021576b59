"""Places, lines and a choice: the calls on them, and what each of them answers."""

BEGIN = 0
LINE = 1
CUT = 2
CHOOSE = 3
TURN = 4
GREEDY = 5
BEST = 6
LINES = 7
CHOSEN = 8
NEAREST = 9
NEAR = 10

# How many whole numbers each call has, by its number. All calls of the
# document stand here, so that any of them can be read ahead of a begin.
ARGUMENT_COUNTS = (1, 3, 1, 1, 1, 1, 0, 0, 0, 1, 1, 2, 2, 1, 0, 1, 2, 0, 0, 0, 0)

NO_SUCH = -2
NOT_BEGUN = -11
OUT_OF_RANGE = -22
TOO_MANY = -28
THERE_IS_NONE = -33

MOST_PLACES = 8
MOST_LINES = 14
MOST_LENGTH = 99
MOST_NEAREST = 8
MOST_PLACES_FOR_BEST = 6

# Stands for the distance where no way leads: a way has at most 7 lines of at
# most 99 each, so every distance is less, and comparing needs no other case.
FAR = 1000


def distances(count, lines):
    """A row for each place: its distance from each place, FAR where no way leads."""
    rows = []
    for u in range(count):
        rows.append([0 if u == v else FAR for v in range(count)])
    for length, a, b in lines:
        rows[a][b] = length
        rows[b][a] = length
    for middle in range(count):
        for u in range(count):
            for v in range(count):
                rows[u][v] = min(rows[u][v], rows[u][middle] + rows[middle][v])
    return rows


def chosen_places(choice, count):
    """The places that the number of a choice tells, rising."""
    return [v for v in range(count) if (choice >> v) & 1 == 1]


def nearest_chosen(row, chosen):
    """The nearest chosen place of the one whose distances are in row; None if it has none."""
    reached = [v for v in chosen if row[v] < FAR]
    return min(reached, key=lambda v: (row[v], v), default=None)


def near_places(row, chosen):
    """The places near the one whose distances are in row, rising."""
    limit = min([row[v] for v in chosen], default=FAR)
    return [v for v in range(len(row)) if row[v] < limit]


def known_by_all(rows, choice):
    """How much all know together, by this choice."""
    chosen = chosen_places(choice, len(rows))
    near = sum([len(near_places(row, chosen)) for row in rows])
    return near + len(rows) * len(chosen)


def nearest_places(row, k):
    """The k nearest of the place whose distances are in row, in order."""
    reached = [v for v in range(len(row)) if row[v] < FAR]
    return sorted(reached, key=lambda v: (row[v], v))[:k]


def how_many_hold(groups, place):
    """How many of the groups have the place among them."""
    return len([group for group in groups if place in group])


def greedy_choice(rows, k):
    """The choice by greed, from nobody chosen."""
    choice = 0
    unserved = [nearest_places(row, k) for row in rows]
    while len(unserved) > 0:
        counts = [how_many_hold(unserved, v) for v in range(len(rows))]
        # index finds the first, which is the least of like ones.
        place = counts.index(max(counts))
        choice = choice | (1 << place)
        unserved = [group for group in unserved if place not in group]
    return choice


def best_choice(rows):
    """The least number of a choice by which all know the least."""
    totals = [known_by_all(rows, choice) for choice in range(1 << len(rows))]
    return totals.index(min(totals))


class Places:
    """The object of one list of calls; without places as long as it isn't begun."""

    def __init__(self):
        self.count = 0
        # Each line is (length, lesser place, other place): so sorted, they are in order.
        self.lines = []
        self.choice = 0

    def rows(self):
        return distances(self.count, self.lines)

    def chosen(self):
        return chosen_places(self.choice, self.count)

    def change(self, lines, choice):
        """Every change is made here, with new lists, so that what was can be kept."""
        self.lines = lines
        self.choice = choice
        return [known_by_all(self.rows(), choice)]

    def begin(self, n):
        if n < 1 or n > MOST_PLACES:
            return [OUT_OF_RANGE]
        self.count = n
        self.lines = []
        self.choice = 0
        return [0]

    def line(self, a, b, w):
        if a >= self.count or b >= self.count:
            return [NO_SUCH]
        if a == b or w < 1 or w > MOST_LENGTH:
            return [OUT_OF_RANGE]
        ends = (min(a, b), max(a, b))
        others = [old for old in self.lines if old[1:] != ends]
        if len(others) >= MOST_LINES:
            return [TOO_MANY]
        return self.change(sorted(others + [(w, ends[0], ends[1])]), self.choice)

    def cut(self, i):
        if i >= len(self.lines):
            return [NO_SUCH]
        return self.change(self.lines[:i] + self.lines[i + 1:], self.choice)

    def choose(self, s):
        if s >= 1 << self.count:
            return [OUT_OF_RANGE]
        return self.change(self.lines, s)

    def turn(self, v):
        if v >= self.count:
            return [NO_SUCH]
        return self.change(self.lines, self.choice ^ (1 << v))

    def greedy(self, k):
        if k < 1 or k > MOST_NEAREST:
            return [OUT_OF_RANGE]
        return self.change(self.lines, greedy_choice(self.rows(), k))

    def best(self):
        if self.count > MOST_PLACES_FOR_BEST:
            return [TOO_MANY]
        return self.change(self.lines, best_choice(self.rows()))

    def tell_lines(self):
        told = [len(self.lines)]
        for length, a, b in self.lines:
            told.extend([a, b, length])
        return told

    def tell_chosen(self):
        chosen = self.chosen()
        return [len(chosen)] + chosen

    def tell_nearest(self, v):
        if v >= self.count:
            return [NO_SUCH]
        row = self.rows()[v]
        nearest = nearest_chosen(row, self.chosen())
        if nearest is None:
            return [THERE_IS_NONE]
        return [nearest, row[nearest]]

    def tell_near(self, v):
        if v >= self.count:
            return [NO_SUCH]
        near = near_places(self.rows()[v], self.chosen())
        return [len(near)] + near


def changed(places, number, values):
    """The answer of a call that makes a change, if it isn't refused."""
    if number == LINE:
        return places.line(values[0], values[1], values[2])
    if number == CUT:
        return places.cut(values[0])
    if number == CHOOSE:
        return places.choose(values[0])
    if number == TURN:
        return places.turn(values[0])
    if number == GREEDY:
        return places.greedy(values[0])
    return places.best()


def looked(places, number, values):
    """The answer of a call that only looks."""
    if number == LINES:
        return places.tell_lines()
    if number == CHOSEN:
        return places.tell_chosen()
    if number == NEAREST:
        return places.tell_nearest(values[0])
    if number == NEAR:
        return places.tell_near(values[0])
    # No number would be a right answer to a call that isn't written yet.
    raise NotImplementedError(f"call {number}")


def answered(places, number, values):
    """The numbers that one call answers."""
    if number == BEGIN:
        return places.begin(values[0])
    if places.count == 0:
        return [NOT_BEGUN]
    if number <= BEST:
        return changed(places, number, values)
    return looked(places, number, values)


def answers(calls):
    """For each call, in order, how many numbers it answers, and these."""
    places = Places()
    given = []
    start = 0
    while start < len(calls):
        number = calls[start]
        end = start + 1 + ARGUMENT_COUNTS[number]
        answer = answered(places, number, calls[start + 1:end])
        given.append(len(answer))
        given.extend(answer)
        start = end
    return given
