"""Nets of towns and lines: a list of calls comes in, the list of their answers goes out."""

MOST_TOWNS = 5
MOST_LINES = 8

# Labels above the last one stand for no set.
LAST_LABEL = 4
NO_SET = 5

WRONG_NUMBER = -1
NO_ROOM = -2
NO_LINE = -3
NO_NET = -4

BEGIN = 0
ADD = 1
DROP = 2
LINE = 3
COUNT = 4
ONEWAY = 5
MEND = 6
CHECK_ONEWAY = 7
CHECK_SIDE = 8

# Both by the call's number.
WHOLE_NUMBERS = (1, 2, 1, 1, 0, 0, 0, 0, 0, 1)
ROWS = (0, 0, 0, 0, 0, 0, 0, 1, 1, 1)


class Net:
    def __init__(self):
        # A begun net has a town at least, so no town stands for no net.
        self.towns = 0
        self.slots = []

    def is_begun(self):
        return self.towns > 0

    def begin(self, n):
        if n < 1 or n > MOST_TOWNS:
            return [WRONG_NUMBER]
        self.towns = n
        self.slots = [None for number in range(MOST_LINES)]
        return [0]

    def add_line(self, u, v):
        if u >= self.towns or v >= self.towns or u == v:
            return [WRONG_NUMBER]
        number = self.lowest_free()
        if number == MOST_LINES:
            return [NO_ROOM]
        self.slots[number] = (u, v)
        return [number]

    def drop_line(self, e):
        refusal = self.refuse_line(e)
        if refusal != []:
            return refusal
        self.slots[e] = None
        return [0]

    def line_towns(self, e):
        refusal = self.refuse_line(e)
        if refusal != []:
            return refusal
        return list(self.slots[e])

    def line_count(self):
        return [len(self.lines_in_order())]

    def lines_in_order(self):
        return [slot for slot in self.slots if slot is not None]

    def lowest_free(self):
        number = 0
        while number < MOST_LINES and self.slots[number] is not None:
            number = number + 1
        return number

    def refuse_line(self, e):
        if e >= MOST_LINES:
            return [WRONG_NUMBER]
        if self.slots[e] is None:
            return [NO_LINE]
        return []


def answers(calls):
    net = Net()
    told = []
    start = 0
    while start < len(calls):
        end = call_end(calls, start)
        answer = answer_call(net, calls[start:end])
        told.append(len(answer))
        told.extend(answer)
        start = end
    return told


def call_end(calls, start):
    kind = calls[start]
    end = start + 1 + WHOLE_NUMBERS[kind]
    if ROWS[kind] == 1:
        end = end + 1 + calls[end]
    return end


def answer_call(net, call):
    kind = call[0]
    if kind == BEGIN:
        return net.begin(call[1])
    if not net.is_begun():
        return [NO_NET]
    if kind == ADD:
        return net.add_line(call[1], call[2])
    if kind == DROP:
        return net.drop_line(call[1])
    if kind == LINE:
        return net.line_towns(call[1])
    if kind == COUNT:
        return net.line_count()
    return answer_proof_call(net.towns, net.lines_in_order(), call)


def answer_proof_call(n, lines, call):
    kind = call[0]
    if kind == ONEWAY:
        return tell_oneway(n, lines)
    if kind == MEND:
        return tell_mend(n, lines)
    if kind == CHECK_ONEWAY:
        return [one_if(way_holds(n, lines, call[2:]))]
    if kind == CHECK_SIDE:
        return [one_if(side_holds(n, lines, call[2:]))]
    # Of the ten calls checkSides, 9, alone is left.
    return [one_if(labels_hold(n, lines, call[3:], call[1]))]


def one_if(holds):
    return 1 if holds else 0


def tell_oneway(n, lines):
    side = first_weak_side(all_sides(n), lines)
    if side is not None:
        return [0] + side
    return [1] + first_way(n, lines)


def tell_mend(n, lines):
    new_lines = fewest_new_lines(n, lines)
    k = len(new_lines)
    told = [k]
    for pair in new_lines:
        told.extend(pair)
    if k > 0:
        told.extend(first_labels(n, lines, 2 * k - 1))
    return told


def way_holds(n, lines, way):
    if len(way) != len(lines):
        return False
    if any([turn > 1 for turn in way]):
        return False
    return all_reach_all(n, lines, way)


def side_holds(n, lines, row):
    side = [town for town in range(n) if town in row]
    return want(n, lines, side) > 0


def labels_hold(n, lines, labels, k):
    return len(labels) == n and labels_want(n, lines, labels) >= 2 * k - 1


def first_way(n, lines):
    # Asked of a safe net alone, which always has such directions: so the search ends.
    way = [0 for line in lines]
    while not all_reach_all(n, lines, way):
        way = row_behind(way, 1)
    return way


def all_reach_all(n, lines, way):
    steps = [one_way(line, turn) for line, turn in zip(lines, way)]
    for town in range(n):
        if len(reached(steps, town)) < n:
            return False
    return True


def one_way(line, turn):
    if turn == 0:
        return (line[0], line[1])
    return (line[1], line[0])


def reached(steps, start):
    towns = [start]
    place = 0
    while place < len(towns):
        for step in steps:
            if step[0] == towns[place] and step[1] not in towns:
                towns.append(step[1])
        place = place + 1
    return towns


def first_weak_side(sides, lines):
    for side in sides:
        if leaving_count(lines, side) < 2:
            return side
    return None


def leaving_count(lines, side):
    return len([line for line in lines if (line[0] in side) != (line[1] in side)])


def want(n, lines, towns):
    if towns == [] or len(towns) == n:
        return 0
    return max(0, 2 - leaving_count(lines, towns))


def labels_want(n, lines, labels):
    return sum([want(n, lines, labelled(labels, label)) for label in range(LAST_LABEL + 1)])


def labelled(labels, label):
    return [town for town, own in enumerate(labels) if own == label]


def first_labels(n, lines, least):
    # The net's parts that no one loss parts, and that a line at most leaves, want 2 k - 1 or
    # more together if k is the fewest new lines: so the search ends.
    labels = [0 for town in range(n)]
    while labels_want(n, lines, labels) < least:
        labels = row_behind(labels, NO_SET)
    return labels


def fewest_new_lines(n, lines):
    # A ring of n new lines makes any net safe: so the search ends.
    k = 0
    new_lines = first_new_lines(n, lines, k)
    while new_lines is None:
        k = k + 1
        new_lines = first_new_lines(n, lines, k)
    return new_lines


def first_new_lines(n, lines, k):
    pairs = rising_rows(2, n, 1)
    sides = all_sides(n)
    # The same pair may be told again: so its number need not rise.
    for row in rising_rows(k, len(pairs), 0):
        new_lines = [pairs[number] for number in row]
        if first_weak_side(sides, lines + new_lines) is None:
            return new_lines
    return None


def all_sides(n):
    sides = []
    for size in range(1, n):
        sides.extend(rising_rows(size, n, 1))
    return sides


def rising_rows(length, bound, rise):
    # Each row is lengthened by rising numbers, so the longer rows come in the order of rows too.
    rows = [[]]
    for place in range(length):
        rows = one_longer(rows, bound, rise)
    return rows


def one_longer(rows, bound, rise):
    longer = []
    for row in rows:
        least = 0 if row == [] else row[-1] + rise
        longer.extend([row + [number] for number in range(least, bound)])
    return longer


def row_behind(row, top):
    # Counting up in numbers from 0 to top keeps the order of rows.
    behind = list(row)
    place = len(row)
    while place > 0:
        place = place - 1
        if behind[place] < top:
            behind[place] = behind[place] + 1
            return behind
        behind[place] = 0
    return None
