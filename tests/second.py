"""A second telling of the words, written apart from the program: slow, plain and by other ways."""

import functools
import itertools

NAMES = ["begin", "add", "drop", "line", "count", "oneway", "mend", "check_oneway", "check_side", "check_sides"]


def hangs_together(n, lines):
    """By merging the towns of each line, where the program walks sides or steps."""
    part = list(range(n))
    for u, v in lines:
        part = [part[u] if here == part[v] else here for here in part]
    return len(set(part)) == 1


@functools.lru_cache(maxsize=None)
def safe(n, lines):
    """As the words in brackets have it: the net hangs together, and still does when any one line is lost."""
    if n == 1:
        return True
    return hangs_together(n, lines) and all(hangs_together(n, lines[:e] + lines[e + 1:]) for e in range(len(lines)))


def leaving(lines, towns):
    return sum(1 for u, v in lines if len({u, v} & set(towns)) == 1)


def sides(n):
    return [side for size in range(1, n) for side in itertools.combinations(range(n), size)]


def want_of_set(n, lines, towns):
    return max(0, 2 - leaving(lines, towns)) if 0 < len(set(towns)) < n else 0


def want(n, lines, labels):
    return sum(want_of_set(n, lines, [town for town in range(n) if labels[town] == label]) for label in range(5))


def strong(n, lines, way):
    """By closing a table of who reaches whom, where the program walks from each town."""
    reach = [[u == v for v in range(n)] for u in range(n)]
    for (u, v), turn in zip(lines, way):
        reach[v if turn else u][u if turn else v] = True
    for via, u, v in itertools.product(range(n), repeat=3):
        reach[u][v] = reach[u][v] or (reach[u][via] and reach[via][v])
    return all(all(row) for row in reach)


def pairs(n):
    return list(itertools.combinations(range(n), 2))


def new_lines(n, k):
    return itertools.combinations_with_replacement(pairs(n), k)


@functools.lru_cache(maxsize=None)
def oneway(n, lines):
    ways = [way for way in itertools.product([0, 1], repeat=len(lines)) if strong(n, lines, way)]
    if ways:
        return [1, *min(ways)]
    weak = [side for side in sides(n) if leaving(lines, side) < 2]
    return [0, *min(weak, key=lambda side: (len(side), side))]


@functools.lru_cache(maxsize=None)
def mend(n, lines):
    for k in itertools.count():
        good = [new for new in new_lines(n, k) if safe(n, lines + new)]
        if good:
            break
    told = [k, *min([town for pair in new for town in pair] for new in good)]
    if k:
        rows = itertools.product(range(6), repeat=n)
        told += next(row for row in rows if want(n, lines, row) >= 2 * k - 1)
    return told


def is_way(n, lines, way):
    return len(way) == len(lines) and set(way) <= {0, 1} and strong(n, lines, way)


def is_weak_side(n, lines, row):
    towns = set(row) & set(range(n))
    return 0 < len(towns) < n and leaving(lines, towns) <= 1


def are_labels(n, lines, labels, k):
    return len(labels) == n and want(n, lines, labels) >= 2 * k - 1


class Told:
    """The net as a count of towns, or None, and a dict of the lines that there are."""

    def __init__(self):
        self.n = None
        self.numbered = {}

    def answer(self, call):
        name, numbers = NAMES[call[0]], call[1:]
        if name != "begin" and self.n is None:
            return [-4]
        if name.startswith("check"):
            return [int(self.checked(name, numbers))]
        return list(getattr(self, name)(*numbers))

    def lines(self):
        return tuple(self.numbered[e] for e in sorted(self.numbered))

    def begin(self, n):
        if n not in range(1, 6):
            return [-1]
        self.n, self.numbered = n, {}
        return [0]

    def add(self, u, v):
        if not {u, v} <= set(range(self.n)) or len({u, v}) == 1:
            return [-1]
        free = sorted(set(range(8)) - set(self.numbered))
        if not free:
            return [-2]
        self.numbered[free[0]] = (u, v)
        return [free[0]]

    def drop(self, e):
        if e > 7:
            return [-1]
        return [-3] if self.numbered.pop(e, None) is None else [0]

    def line(self, e):
        if e > 7:
            return [-1]
        return self.numbered.get(e, [-3])

    def count(self):
        return [len(self.numbered)]

    def oneway(self):
        return oneway(self.n, self.lines())

    def mend(self):
        return mend(self.n, self.lines())

    def checked(self, name, numbers):
        if name == "check_oneway":
            return is_way(self.n, self.lines(), numbers[1:])
        if name == "check_side":
            return is_weak_side(self.n, self.lines(), numbers[1:])
        return are_labels(self.n, self.lines(), numbers[2:], numbers[0])
