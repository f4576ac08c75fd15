"""Nets of towns and lines: a list of calls comes in, the list of their answers goes out."""

MOST_TOWNS = 5
MOST_LINES = 8

WRONG_NUMBER = -1
NO_ROOM = -2
NO_LINE = -3
NO_NET = -4

BEGIN = 0
ADD = 1
DROP = 2
LINE = 3
COUNT = 4

# Both by the call's number. The calls that aren't built yet stand here too: without their
# form it couldn't be told where the call behind them begins.
WHOLE_NUMBERS = (1, 2, 1, 1, 0, 0, 0, 0, 0, 1)
ROWS = (0, 0, 0, 0, 0, 0, 0, 1, 1, 1)


class NotBuiltError(Exception):
    pass


class Net:
    def __init__(self):
        # A begun net has a town at least, so no town stands for no net.
        self.towns = 0
        self.slots = []

    def is_begun(self):
        return self.towns > 0

    def begin(self, n):
        if n < 1 or n > MOST_TOWNS:
            return [WRONG_NUMBER]
        self.towns = n
        self.slots = [None for number in range(MOST_LINES)]
        return [0]

    def add_line(self, u, v):
        if u >= self.towns or v >= self.towns or u == v:
            return [WRONG_NUMBER]
        number = self.lowest_free()
        if number == MOST_LINES:
            return [NO_ROOM]
        self.slots[number] = (u, v)
        return [number]

    def drop_line(self, e):
        refusal = self.refuse_line(e)
        if refusal != []:
            return refusal
        self.slots[e] = None
        return [0]

    def line_towns(self, e):
        refusal = self.refuse_line(e)
        if refusal != []:
            return refusal
        return list(self.slots[e])

    def line_count(self):
        return [len([slot for slot in self.slots if slot is not None])]

    def lowest_free(self):
        number = 0
        while number < MOST_LINES and self.slots[number] is not None:
            number = number + 1
        return number

    def refuse_line(self, e):
        if e >= MOST_LINES:
            return [WRONG_NUMBER]
        if self.slots[e] is None:
            return [NO_LINE]
        return []


def answers(calls):
    net = Net()
    told = []
    start = 0
    while start < len(calls):
        end = call_end(calls, start)
        answer = answer_call(net, calls[start:end])
        told.append(len(answer))
        told.extend(answer)
        start = end
    return told


def call_end(calls, start):
    kind = calls[start]
    end = start + 1 + WHOLE_NUMBERS[kind]
    if ROWS[kind] == 1:
        end = end + 1 + calls[end]
    return end


def answer_call(net, call):
    kind = call[0]
    if kind == BEGIN:
        return net.begin(call[1])
    if not net.is_begun():
        return [NO_NET]
    if kind == ADD:
        return net.add_line(call[1], call[2])
    if kind == DROP:
        return net.drop_line(call[1])
    if kind == LINE:
        return net.line_towns(call[1])
    if kind == COUNT:
        return net.line_count()
    raise NotBuiltError(f"call {kind} is not built yet")
