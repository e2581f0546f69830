"""The same calls answered in the plainest way: at each tick every value is asked anew of all that has come."""

from collections import Counter


def without_zeros(counter):
    return {row: count for row, count in counter.items() if count != 0}


def sum_of(x, y, sign=1):
    summed = Counter()
    for row in list(x) + list(y):
        summed[row] = x.get(row, 0) + sign * y.get(row, 0)
    return without_zeros(summed)


def value_by_table(node, values):
    """What the table says of a node that's neither an input nor a delay, of the values of the others."""
    kind, first, second, third = node
    x = values[first]
    if kind == 1:
        return sum_of(x, values[second])
    if kind == 2:
        return sum_of(x, values[second], -1)
    if kind == 3:
        return {(b, a): count for (a, b), count in x.items()}
    if kind == 4:
        tests = [
            lambda a, b: a == third,
            lambda a, b: b == third,
            lambda a, b: a == b,
            lambda a, b: a < b,
            lambda a, b: a <= third,
            lambda a, b: b <= third,
        ]
        return {(a, b): count for (a, b), count in x.items() if tests[second](a, b)}
    if kind == 5:
        return {((a + second) % 1000, (b + third) % 1000): count for (a, b), count in x.items()}
    if kind == 6:
        found = Counter()
        for (a, b), count in x.items():
            for (other, c), times in values[second].items():
                if b == other:
                    found[(a, c)] += count * times
        return without_zeros(found)
    if kind == 7:
        return {row: 1 for row, count in x.items() if count > 0}
    firsts = {a for a, b in x}
    if kind == 8:
        sums = {a: sum(count for (other, b), count in x.items() if other == a) for a in firsts}
        return {(a, min(999, together)): 1 for a, together in sums.items() if together > 0}
    pick = {9: min, 10: max}[kind]
    seconds = {a: [b for (other, b), count in x.items() if other == a and count > 0] for a in firsts}
    return {(a, pick(found)): 1 for a, found in seconds.items() if found}


def values_after(nodes, history):
    """For each tick from 0 on: every node's value; history has for each tick what came in, by node."""
    at_tick = [{k: {} for k in nodes}]
    for came in history:
        ahead = at_tick[-1]
        values = {}
        for k, node in nodes.items():
            if node[0] == 0:
                values[k] = sum_of(ahead[k], came.get(k, {}))
            elif node[0] == 11:
                values[k] = ahead[node[1]]
            else:
                values[k] = value_by_table(node, values)
        at_tick.append(values)
    return at_tick


def in_limits(x):
    return len(x) <= 100 and all(-10 ** 9 <= count <= 10 ** 9 for count in x.values())


def told(x):
    return [len(x)] + [number for a, b in sorted(x) for number in (a, b, x[(a, b)])]


def no_node(kind, first, second, third):
    if min(kind, first, second, third) < 0 or kind > 11:
        return True
    if kind == 0:
        return (first, second, third) != (0, 0, 0)
    if kind in (1, 2, 6):
        return third != 0
    if kind == 4:
        return second > 5 or third > 999
    if kind == 5:
        return second > 999 or third > 999
    return (second, third) != (0, 0)


def made_wrongly(k, node, how_many):
    kind, first, second, third = node
    parts = {0: [], 1: [first, second], 2: [first, second], 6: [first, second]}.get(kind, [first])
    highest = how_many if kind == 11 else k - 1
    return any(part < 1 or part > highest for part in parts)


class Anew:
    """One line; each call is a list of numbers as it is handed in."""

    def __init__(self):
        self.nodes = {1: (0, 0, 0, 0), 2: (7, 1, 0, 0)}
        self.history = []
        self.came = {}

    def values(self, back=0):
        at_tick = values_after(self.nodes, self.history)
        return at_tick[max(0, len(at_tick) - 1 - back)]

    def changes(self):
        behind, ahead = self.values(), self.values(1)
        return {k: sum_of(behind[k], ahead[k], -1) for k in self.nodes}

    def answer(self, call):
        return [
            self.circuit, self.change, self.tick, self.delta, self.total, self.holds, self.pending, self.forget,
            self.ticks,
        ][call[0]](*call[1:])

    def circuit(self, length, *numbers):
        if length % 4 or not 4 <= length <= 64:
            return [-1]
        nodes = {at // 4 + 1: tuple(numbers[at:at + 4]) for at in range(0, length, 4)}
        if any(no_node(*node) for node in nodes.values()):
            return [-2]
        if any(made_wrongly(k, node, len(nodes)) for k, node in nodes.items()):
            return [-3]
        self.nodes, self.history, self.came = nodes, [], {}
        return [len(nodes)]

    def change(self, k, a, b, count):
        if k not in self.nodes:
            return [-1]
        if self.nodes[k][0] != 0:
            return [-4]
        if min(a, b) < 0 or max(a, b) > 999:
            return [-2]
        if count < -1000 or count > 1000:
            return [-3]
        self.came[k] = sum_of(self.came.get(k, {}), {(a, b): count})
        return [0]

    def tick(self):
        self.history.append(self.came)
        changes = self.changes()
        if not all(in_limits(x) for x in list(changes.values()) + list(self.values().values())):
            self.history.pop()
            return [-9]
        self.came = {}
        return [sum(len(x) for x in changes.values())]

    def delta(self, k):
        return told(self.changes()[k]) if k in self.nodes else [-1]

    def total(self, k):
        return told(self.values()[k]) if k in self.nodes else [-1]

    def holds(self, k, a, b):
        if k not in self.nodes:
            return [-1]
        if min(a, b) < 0 or max(a, b) > 999:
            return [-2]
        return [1, self.values()[k].get((a, b), 0)]

    def pending(self, k):
        return told(self.came.get(k, {})) if k in self.nodes else [-1]

    def forget(self):
        came, self.came = self.came, {}
        return [sum(len(x) for x in came.values())]

    def ticks(self):
        return [len(self.history)]
