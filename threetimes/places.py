"""Places, lines and a choice: the calls on them, and what each of them answers."""

BEGIN = 0
LINE = 1
CUT = 2
CHOOSE = 3
TURN = 4
GREEDY = 5
BEST = 6
LINES = 7
CHOSEN = 8
NEAREST = 9
NEAR = 10
DIST = 11
TOLD = 12
KNOWS = 13
ALL = 14
IFCHOSEN = 15
FIRST = 16
WORST = 17
LEASTALL = 18
BACK = 19
STATE = 20

# How many whole numbers each call has, by its number.
ARGUMENT_COUNTS = (1, 3, 1, 1, 1, 1, 0, 0, 0, 1, 1, 2, 2, 1, 0, 1, 2, 0, 0, 0, 0)

NO_SUCH = -2
NO_CHANGE = -6
NOT_BEGUN = -11
OUT_OF_RANGE = -22
TOO_MANY = -28
THERE_IS_NONE = -33

MOST_PLACES = 8
MOST_LINES = 14
MOST_LENGTH = 99
MOST_NEAREST = 8
MOST_PLACES_FOR_BEST = 6
MOST_TAKEN_BACK = 10

# Stands for the distance where no way leads: a way has at most 7 lines of at
# most 99 each, so every distance is less, and comparing needs no other case.
FAR = 1000


def distances(count, lines):
    """A row for each place: its distance from each place, FAR where no way leads."""
    rows = []
    for u in range(count):
        rows.append([0 if u == v else FAR for v in range(count)])
    for length, a, b in lines:
        rows[a][b] = length
        rows[b][a] = length
    for middle in range(count):
        for u in range(count):
            for v in range(count):
                rows[u][v] = min(rows[u][v], rows[u][middle] + rows[middle][v])
    return rows


def chosen_places(choice, count):
    """The places that the number of a choice tells, rising."""
    return [v for v in range(count) if (choice >> v) & 1 == 1]


def nearest_chosen(row, chosen):
    """The nearest chosen place of the one whose distances are in row; None if it has none."""
    reached = [v for v in chosen if row[v] < FAR]
    return min(reached, key=lambda v: (row[v], v), default=None)


def near_places(row, chosen):
    """The places near the one whose distances are in row, rising."""
    limit = min([row[v] for v in chosen], default=FAR)
    return [v for v in range(len(row)) if row[v] < limit]


def told_by_nearest(rows, chosen, u, v):
    """How far the nearest chosen one of u is from u, and from v, together."""
    nearest = nearest_chosen(rows[u], chosen)
    return rows[u][nearest] + rows[v][nearest]


def told_distance(rows, chosen, u, v):
    """What is told of u and v; None if nothing is."""
    if rows[u][v] == FAR:
        # No way leads from what is near the one, or is its nearest chosen one, to the other.
        return None
    if v in near_places(rows[u], chosen) or u in near_places(rows[v], chosen):
        return rows[u][v]
    # A place without a nearest chosen one has all near that a way leads to: so here both have one.
    return min(told_by_nearest(rows, chosen, u, v), told_by_nearest(rows, chosen, v, u))


def worst_told(rows, chosen):
    """The pair that is told worst, what is told of it, and its distance; None if there is no such pair."""
    worst = None
    for u in range(len(rows)):
        for v in range(u + 1, len(rows)):
            told = told_distance(rows, chosen, u, v)
            # Multiplied crosswise, as two quotients are compared exactly in whole numbers.
            if told is not None and (worst is None or told * worst[3] > worst[2] * rows[u][v]):
                worst = (u, v, told, rows[u][v])
    return worst


def known_by_one(row, chosen):
    """How much the place knows whose distances are in row."""
    return len(near_places(row, chosen)) + len(chosen)


def known_by_all(rows, choice):
    """How much all know together, by this choice."""
    chosen = chosen_places(choice, len(rows))
    return sum([known_by_one(row, chosen) for row in rows])


def nearest_places(row, k):
    """The k nearest of the place whose distances are in row, in order."""
    reached = [v for v in range(len(row)) if row[v] < FAR]
    return sorted(reached, key=lambda v: (row[v], v))[:k]


def how_many_hold(groups, place):
    """How many of the groups have the place among them."""
    return len([group for group in groups if place in group])


def greedy_choice(rows, k):
    """The choice by greed, from nobody chosen."""
    choice = 0
    unserved = [nearest_places(row, k) for row in rows]
    while len(unserved) > 0:
        counts = [how_many_hold(unserved, v) for v in range(len(rows))]
        # index finds the first, which is the least of like ones.
        place = counts.index(max(counts))
        choice = choice | (1 << place)
        unserved = [group for group in unserved if place not in group]
    return choice


def best_choice(rows):
    """The least number of a choice by which all know the least."""
    totals = [known_by_all(rows, choice) for choice in range(1 << len(rows))]
    return totals.index(min(totals))


class Places:
    """The object of one list of calls; without places as long as it isn't begun."""

    def __init__(self):
        self.count = 0
        # Each line is (length, lesser place, other place): so sorted, they are in order.
        self.lines = []
        self.choice = 0
        # The lines and the choice ahead of each change that can be taken back, the last one's last.
        self.earlier = []

    def rows(self):
        return distances(self.count, self.lines)

    def chosen(self):
        return chosen_places(self.choice, self.count)

    def change(self, lines, choice):
        """Every change is made here, with new lists, so that what was can be kept."""
        earlier = self.earlier + [(self.lines, self.choice)]
        self.earlier = earlier[-MOST_TAKEN_BACK:]
        self.lines = lines
        self.choice = choice
        return [known_by_all(self.rows(), choice)]

    def begin(self, n):
        if n < 1 or n > MOST_PLACES:
            return [OUT_OF_RANGE]
        self.count = n
        self.lines = []
        self.choice = 0
        self.earlier = []
        return [0]

    def line(self, a, b, w):
        if a >= self.count or b >= self.count:
            return [NO_SUCH]
        if a == b or w < 1 or w > MOST_LENGTH:
            return [OUT_OF_RANGE]
        ends = (min(a, b), max(a, b))
        others = [old for old in self.lines if old[1:] != ends]
        if len(others) >= MOST_LINES:
            return [TOO_MANY]
        return self.change(sorted(others + [(w, ends[0], ends[1])]), self.choice)

    def cut(self, i):
        if i >= len(self.lines):
            return [NO_SUCH]
        return self.change(self.lines[:i] + self.lines[i + 1:], self.choice)

    def choose(self, s):
        if s >= 1 << self.count:
            return [OUT_OF_RANGE]
        return self.change(self.lines, s)

    def turn(self, v):
        if v >= self.count:
            return [NO_SUCH]
        return self.change(self.lines, self.choice ^ (1 << v))

    def greedy(self, k):
        if k < 1 or k > MOST_NEAREST:
            return [OUT_OF_RANGE]
        return self.change(self.lines, greedy_choice(self.rows(), k))

    def best(self):
        if self.count > MOST_PLACES_FOR_BEST:
            return [TOO_MANY]
        return self.change(self.lines, best_choice(self.rows()))

    def back(self):
        if len(self.earlier) == 0:
            return [NO_CHANGE]
        ahead = self.earlier.pop()
        self.lines = ahead[0]
        self.choice = ahead[1]
        return [len(self.earlier)]

    def tell_state(self):
        return [self.count, len(self.lines), self.choice, len(self.earlier)]

    def tell_lines(self):
        told = [len(self.lines)]
        for length, a, b in self.lines:
            told.extend([a, b, length])
        return told

    def tell_chosen(self):
        chosen = self.chosen()
        return [len(chosen)] + chosen

    def tell_nearest(self, v):
        if v >= self.count:
            return [NO_SUCH]
        row = self.rows()[v]
        nearest = nearest_chosen(row, self.chosen())
        if nearest is None:
            return [THERE_IS_NONE]
        return [nearest, row[nearest]]

    def tell_near(self, v):
        if v >= self.count:
            return [NO_SUCH]
        near = near_places(self.rows()[v], self.chosen())
        return [len(near)] + near

    def tell_first(self, v, k):
        if v >= self.count:
            return [NO_SUCH]
        if k < 1 or k > MOST_NEAREST:
            return [OUT_OF_RANGE]
        first = nearest_places(self.rows()[v], k)
        return [len(first)] + first

    def tell_dist(self, u, v):
        if u >= self.count or v >= self.count:
            return [NO_SUCH]
        distance = self.rows()[u][v]
        if distance == FAR:
            return [THERE_IS_NONE]
        return [distance]

    def tell_told(self, u, v):
        if u >= self.count or v >= self.count:
            return [NO_SUCH]
        told = told_distance(self.rows(), self.chosen(), u, v)
        if told is None:
            return [THERE_IS_NONE]
        return [told]

    def tell_knows(self, v):
        if v >= self.count:
            return [NO_SUCH]
        return [known_by_one(self.rows()[v], self.chosen())]

    def tell_all(self):
        return [known_by_all(self.rows(), self.choice)]

    def tell_if_chosen(self, s):
        if s >= 1 << self.count:
            return [OUT_OF_RANGE]
        return [known_by_all(self.rows(), s)]

    def tell_least_all(self):
        if self.count > MOST_PLACES_FOR_BEST:
            return [TOO_MANY]
        rows = self.rows()
        choice = best_choice(rows)
        return [known_by_all(rows, choice), choice]

    def tell_worst(self):
        worst = worst_told(self.rows(), self.chosen())
        if worst is None:
            return [THERE_IS_NONE]
        return [0] + list(worst)


def changed(places, number, values):
    """The answer of a call that makes a change, if it isn't refused."""
    if number == LINE:
        return places.line(values[0], values[1], values[2])
    if number == CUT:
        return places.cut(values[0])
    if number == CHOOSE:
        return places.choose(values[0])
    if number == TURN:
        return places.turn(values[0])
    if number == GREEDY:
        return places.greedy(values[0])
    return places.best()


def looked_over(places, number):
    """The answer of a call that only looks, at the object as a whole."""
    if number == LINES:
        return places.tell_lines()
    if number == CHOSEN:
        return places.tell_chosen()
    if number == ALL:
        return places.tell_all()
    if number == WORST:
        return places.tell_worst()
    if number == LEASTALL:
        return places.tell_least_all()
    return places.tell_state()


def looked_at(places, number, values):
    """The answer of a call that only looks, at what its whole numbers tell."""
    if number == NEAREST:
        return places.tell_nearest(values[0])
    if number == NEAR:
        return places.tell_near(values[0])
    if number == DIST:
        return places.tell_dist(values[0], values[1])
    if number == TOLD:
        return places.tell_told(values[0], values[1])
    if number == KNOWS:
        return places.tell_knows(values[0])
    if number == IFCHOSEN:
        return places.tell_if_chosen(values[0])
    return places.tell_first(values[0], values[1])


def answered(places, number, values):
    """The numbers that one call answers."""
    if number == BEGIN:
        return places.begin(values[0])
    if places.count == 0:
        return [NOT_BEGUN]
    if number <= BEST:
        return changed(places, number, values)
    if number == BACK:
        return places.back()
    if len(values) == 0:
        return looked_over(places, number)
    return looked_at(places, number, values)


def answers(calls):
    """For each call, in order, how many numbers it answers, and these."""
    places = Places()
    given = []
    start = 0
    while start < len(calls):
        number = calls[start]
        end = start + 1 + ARGUMENT_COUNTS[number]
        answer = answered(places, number, calls[start + 1:end])
        given.append(len(answer))
        given.extend(answer)
        start = end
    return given
