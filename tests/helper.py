"""Writes calls by name, takes answers apart, and answers the calls a second way."""

import collections
import fractions
import itertools

from threetimes.places import answers

CALLS = (
    ("begin", 1), ("line", 3), ("cut", 1), ("choose", 1), ("turn", 1), ("greedy", 1), ("best", 0),
    ("lines", 0), ("chosen", 0), ("nearest", 1), ("near", 1), ("dist", 2), ("told", 2), ("knows", 1),
    ("all", 0), ("ifchosen", 1), ("first", 2), ("worst", 0), ("leastall", 0), ("back", 0), ("state", 0),
)
NUMBERS = {name: number for number, (name, _) in enumerate(CALLS)}
WIDTHS = dict(CALLS)
LARGEST = 4294967295
CHANGES = ("line", "cut", "choose", "turn", "greedy", "best")

# Fourteen pairs of eight places, as many as there may be lines.
FOURTEEN = tuple(itertools.combinations(range(8), 2))[:14]
FULL = [("begin", 8)] + [("line", a, b, 50) for a, b in FOURTEEN]
# 0 -1- 1 -1- 2 -1- 3
PATH = [("begin", 4), ("line", 0, 1, 1), ("line", 1, 2, 1), ("line", 2, 3, 1)]
# 0 -4- 1 -4- 2, and 3 -9- 4 by themselves
PIECES = [("begin", 5), ("line", 0, 1, 4), ("line", 1, 2, 4), ("line", 3, 4, 9)]


def flat(calls):
    """The list that is handed in for calls such as ("line", 0, 1, 5)."""
    numbers = []
    for name, *values in calls:
        assert len(values) == WIDTHS[name], name
        numbers.append(NUMBERS[name])
        numbers.extend(values)
    # No longer list is ever handed in.
    assert len(calls) <= 256 and len(numbers) <= 1024, len(calls)
    return numbers


def split(given):
    """One list for each answer in what is given back."""
    parts = []
    start = 0
    while start < len(given):
        end = start + 1 + given[start]
        assert given[start] >= 1 and end <= len(given), given
        parts.append(given[start + 1:end])
        start = end
    return parts


def run(*calls):
    """What each of the calls answers, on one new object."""
    parts = split(answers(flat(calls)))
    assert len(parts) == len(calls), (calls, parts)
    return parts


def last(*calls):
    """What the last of the calls answers."""
    return run(*calls)[-1]


def looks(count):
    """Calls that show the whole object; the first of them is state."""
    shown = [("state",), ("lines",), ("chosen",), ("all",), ("worst",), ("leastall",)]
    for v in range(count):
        shown += [("nearest", v), ("near", v), ("knows", v), ("first", v, 8)]
    for u, v in itertools.combinations(range(count), 2):
        shown += [("dist", u, v), ("told", u, v)]
    return shown


# Each call a few times, a line often, so that there is something to tell, and a begin seldom.
NAMES = tuple(WIDTHS) + 4 * tuple(name for name in WIDTHS if name != "begin") + ("line",) * 40 + ("turn",) * 8


def drawn_value(drawn, most):
    """Mostly what there may be, sometimes just beyond it or far off."""
    if drawn.random() < 0.04:
        return drawn.choice((0, most + 1, 255, 256, LARGEST))
    return drawn.randint(0, most)


def drawn_call(drawn, n, longest, names=NAMES):
    """One of the calls of these names, for n places and lines up to that length."""
    name = drawn.choice(names)
    if name == "begin":
        return (name, drawn.randint(0, 9))
    if name == "line":
        return (name, drawn_value(drawn, n - 1), drawn_value(drawn, n - 1), drawn_value(drawn, longest))
    if name == "first":
        return (name, drawn_value(drawn, n - 1), drawn_value(drawn, 8))
    most = {"cut": 13, "choose": 2 ** n - 1, "ifchosen": 2 ** n - 1, "greedy": 8}.get(name, n - 1)
    return (name,) + tuple(drawn_value(drawn, most) for _ in range(WIDTHS[name]))


class Model:
    """The document's words once more, over dicts and sets, with ways walked one by one."""

    def __init__(self):
        self.n = 0
        self.lengths = {}
        self.picked = set()
        self.kept = collections.deque(maxlen=10)

    def call(self, name, *values):
        if name == "begin":
            return self.begin(*values)
        if self.n == 0:
            return [-11]
        before = (dict(self.lengths), set(self.picked))
        answer = getattr(self, name)(*values)
        if name in CHANGES and answer[0] >= 0:
            self.kept.append(before)
        return answer

    def begin(self, n):
        if n not in range(1, 9):
            return [-22]
        self.n, self.lengths, self.picked = n, {}, set()
        self.kept.clear()
        return [0]

    def back(self):
        if not self.kept:
            return [-6]
        self.lengths, self.picked = self.kept.pop()
        return [len(self.kept)]

    def state(self):
        return [self.n, len(self.lengths), sum(2 ** v for v in self.picked), len(self.kept)]

    def ways(self, u):
        """The length of a shortest way from u to each place that one leads to."""
        found = {}
        walks = [(u, (u,), 0)]
        while walks:
            at, passed, length = walks.pop()
            found[at] = min(length, found.get(at, length))
            for ends, more in self.lengths.items():
                if at in ends:
                    (other,) = ends - {at}
                    if other not in passed:
                        walks.append((other, passed + (other,), length + more))
        return found

    def near_of(self, ways, picked):
        distances = [ways[c] for c in picked if c in ways]
        return [u for u in sorted(ways) if not distances or ways[u] < min(distances)]

    def total(self, all_ways, picked):
        return sum(len(self.near_of(ways, picked)) + len(picked) for ways in all_ways)

    def all_ways(self):
        return [self.ways(u) for u in range(self.n)]

    def all_know(self):
        return [self.total(self.all_ways(), self.picked)]

    def ordered(self):
        rows = [(w, min(ends), max(ends)) for ends, w in self.lengths.items()]
        return sorted(rows)

    def line(self, a, b, w):
        if not (a < self.n and b < self.n):
            return [-2]
        if a == b or w not in range(1, 100):
            return [-22]
        ends = frozenset((a, b))
        if ends not in self.lengths and len(self.lengths) == 14:
            return [-28]
        self.lengths[ends] = w
        return self.all_know()

    def cut(self, i):
        if i not in range(len(self.lengths)):
            return [-2]
        _, a, b = self.ordered()[i]
        del self.lengths[frozenset((a, b))]
        return self.all_know()

    def places_of(self, s):
        return {v for v in range(self.n) if bin(s)[2:][::-1][v:v + 1] == "1"}

    def choose(self, s):
        if s not in range(2 ** self.n):
            return [-22]
        self.picked = self.places_of(s)
        return self.all_know()

    def turn(self, v):
        if v not in range(self.n):
            return [-2]
        self.picked = self.picked ^ {v}
        return self.all_know()

    def first_of(self, ways, k):
        return [v for _, v in sorted((d, v) for v, d in ways.items())][:k]

    def greedy(self, k):
        if k not in range(1, 9):
            return [-22]
        firsts = [set(self.first_of(ways, k)) for ways in self.all_ways()]
        picked = set()
        while any(not group & picked for group in firsts):
            lacking = [group for group in firsts if not group & picked]
            picked.add(min(range(self.n), key=lambda v: (-sum(v in group for group in lacking), v)))
        self.picked = picked
        return self.all_know()

    def best(self):
        if self.n > 6:
            return [-28]
        all_ways = self.all_ways()
        choices = [self.places_of(s) for s in range(2 ** self.n)]
        self.picked = min(choices, key=lambda picked: self.total(all_ways, picked))
        return self.all_know()

    def lines(self):
        told = [len(self.lengths)]
        for w, a, b in self.ordered():
            told += [a, b, w]
        return told

    def chosen(self):
        return [len(self.picked)] + sorted(self.picked)

    def nearest(self, v):
        if v not in range(self.n):
            return [-2]
        ways = self.ways(v)
        reached = sorted((ways[c], c) for c in self.picked if c in ways)
        return [reached[0][1], reached[0][0]] if reached else [-33]

    def near(self, v):
        if v not in range(self.n):
            return [-2]
        near = self.near_of(self.ways(v), self.picked)
        return [len(near)] + near

    def first(self, v, k):
        if v not in range(self.n):
            return [-2]
        if k not in range(1, 9):
            return [-22]
        first = self.first_of(self.ways(v), k)
        return [len(first)] + first

    def dist(self, u, v):
        if not (u < self.n and v < self.n):
            return [-2]
        return [self.ways(u).get(v, -33)]

    def told_of(self, from_u, from_v, u, v):
        """A list of what is told, and an empty one if nothing is."""
        if v in self.near_of(from_u, self.picked) or u in self.near_of(from_v, self.picked):
            return [from_u[v]]
        sums = []
        for own, other in ((from_u, from_v), (from_v, from_u)):
            for distance, c in sorted((own[c], c) for c in self.picked if c in own)[:1]:
                if c in other:
                    sums.append(distance + other[c])
        return sorted(sums)[:1]

    def told(self, u, v):
        if not (u < self.n and v < self.n):
            return [-2]
        return self.told_of(self.ways(u), self.ways(v), u, v) or [-33]

    def knows(self, v):
        if v not in range(self.n):
            return [-2]
        return [len(self.near_of(self.ways(v), self.picked)) + len(self.picked)]

    def all(self):
        return self.all_know()

    def ifchosen(self, s):
        if s not in range(2 ** self.n):
            return [-22]
        return [self.total(self.all_ways(), self.places_of(s))]

    def leastall(self):
        if self.n > 6:
            return [-28]
        all_ways = self.all_ways()
        return list(min((self.total(all_ways, self.places_of(s)), s) for s in range(2 ** self.n)))

    def worst(self):
        all_ways = self.all_ways()
        pairs = []
        for u, v in itertools.combinations(range(self.n), 2):
            for told in self.told_of(all_ways[u], all_ways[v], u, v):
                distance = all_ways[u][v]
                pairs.append((-fractions.Fraction(told, distance), u, v, told, distance))
        return [0] + list(min(pairs)[1:]) if pairs else [-33]
