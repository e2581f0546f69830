"""Circuits of changes: the calls of one line go in, their answers come out.

A collection is a dict: to each of its rows (a, b) its count, which is never 0.
What a circuit has for each node stands in a dict, by the node's number, from 1 on.
"""

NUMBERS_OF_A_NODE = 4
MOST_NODES = 16
MOST_ROWS = 100
MOST_COUNT = 1000000000
MOST_COUNT_COMING = 1000
GREATEST = 999

INPUT = 0
PLUS = 1
MINUS = 2
SWAP = 3
KEEP = 4
MOVE = 5
JOIN = 6
DELAY = 11

# An input, and distinct of it.
FIRST_NODES = (0, 0, 0, 0, 7, 1, 0, 0)

# By a node's sort, for its second, third and fourth number: None where a node is told, else the greatest number.
FORMS = (
    (0, 0, 0),
    (None, None, 0),
    (None, None, 0),
    (None, 0, 0),
    (None, 5, 999),
    (None, 999, 999),
    (None, None, 0),
    (None, 0, 0),
    (None, 0, 0),
    (None, 0, 0),
    (None, 0, 0),
    (None, 0, 0),
)


def add_row(x, row, count):
    """Add a count to the row's count in x, which is changed."""
    together = x.get(row, 0) + count
    if together != 0:
        x[row] = together
    elif row in x:
        x.pop(row)


def with_times(x, y, times):
    """The collection x with y added so many times."""
    added = {}
    for row, count in x.items():
        added[row] = count
    for row, count in y.items():
        add_row(added, row, times * count)
    return added


def sum_of(x, y):
    return with_times(x, y, 1)


def difference_of(x, y):
    return with_times(x, y, -1)


def swapped(x):
    turned = {}
    for row, count in x.items():
        turned[(row[1], row[0])] = count
    return turned


def passes(row, test, n):
    if test == 0:
        return row[0] == n
    if test == 1:
        return row[1] == n
    if test == 2:
        return row[0] == row[1]
    if test == 3:
        return row[0] < row[1]
    if test == 4:
        return row[0] <= n
    return row[1] <= n


def kept(x, test, n):
    passing = {}
    for row, count in x.items():
        if passes(row, test, n):
            passing[row] = count
    return passing


def moved(x, m, n):
    further = {}
    for row, count in x.items():
        add_row(further, ((row[0] + m) % (GREATEST + 1), (row[1] + n) % (GREATEST + 1)), count)
    return further


def by_first(x):
    """For each a of x's rows (a, b): a list of all its b, each with its count."""
    groups = {}
    for row, count in x.items():
        groups.setdefault(row[0], []).append((row[1], count))
    return groups


def joined(x, y):
    groups = by_first(y)
    pairs = {}
    for row, count in x.items():
        for second, times in groups.get(row[1], []):
            add_row(pairs, (row[0], second), count * times)
    return pairs


def distinct(x):
    present = {}
    for row, count in x.items():
        if count > 0:
            present[row] = 1
    return present


def counts(x):
    counted = {}
    for first, seconds in by_first(x).items():
        together = sum([count for second, count in seconds])
        if together > 0:
            counted[(first, min(together, GREATEST))] = 1
    return counted


def least(x):
    found = {}
    for first, seconds in by_first(distinct(x)).items():
        found[(first, min([second for second, count in seconds]))] = 1
    return found


def greatest(x):
    found = {}
    for first, seconds in by_first(distinct(x)).items():
        found[(first, max([second for second, count in seconds]))] = 1
    return found


# By a node's sort: the questions whose answer for one a hangs on the rows (a, any b) alone.
QUESTIONS_BY_FIRST = {7: distinct, 8: counts, 9: least, 10: greatest}


def change_of_join(x, x_change, y, y_change):
    """By how much the join of x and y changes when both do."""
    # Rows that come on both sides in one tick must meet once: one side is taken as it is behind the tick,
    # the other as it was ahead of it.
    return sum_of(joined(x_change, sum_of(y, y_change)), joined(x, y_change))


def change_by_first(question, x, x_change):
    """By how much the answer to the question changes when x does."""
    touched = by_first(x_change)
    ahead = {}
    for row, count in x.items():
        if row[0] in touched:
            ahead[row] = count
    return difference_of(question(sum_of(ahead, x_change)), question(ahead))


def is_row(a, b):
    return 0 <= a <= GREATEST and 0 <= b <= GREATEST


def within_limits(x):
    if len(x) > MOST_ROWS:
        return False
    return all([abs(count) <= MOST_COUNT for count in x.values()])


def nodes_told(numbers):
    """The nodes that are told by these numbers, by their numbers from 1 on."""
    nodes = {}
    for at in range(0, len(numbers), NUMBERS_OF_A_NODE):
        nodes[len(nodes) + 1] = tuple(numbers[at:at + NUMBERS_OF_A_NODE])
    return nodes


def has_form(node):
    """Whether these four numbers are a node's, whatever nodes there are."""
    if not 0 <= node[0] < len(FORMS):
        return False
    for number, most in zip(node[1:], FORMS[node[0]]):
        if number < 0 or (most is not None and number > most):
            return False
    return True


def is_made_of_known(nodes, k):
    """Whether node k is made only of nodes that it may be made of."""
    node = nodes[k]
    last = len(nodes) if node[0] == DELAY else k - 1
    parts = [number for number, most in zip(node[1:], FORMS[node[0]]) if most is None]
    return all([1 <= part <= last for part in parts])


def circuit_refusal(numbers):
    """Why these numbers are no circuit; 0 if they are one."""
    nodes = nodes_told(numbers)
    if len(numbers) % NUMBERS_OF_A_NODE != 0 or not 1 <= len(nodes) <= MOST_NODES:
        return -1
    if not all([has_form(node) for node in nodes.values()]):
        return -2
    if not all([is_made_of_known(nodes, k) for k in nodes]):
        return -3
    return 0


class Circuit:
    """The nodes, and for each: its value, its change in the last tick, and what has come in since then.

    A collection in totals or changes may stand there for several nodes and ticks: it is put anew, never changed.
    """

    def __init__(self):
        self.begin(FIRST_NODES)

    def begin(self, numbers):
        self.nodes = nodes_told(numbers)
        self.ticks = 0
        self.totals = self.no_rows()
        self.changes = self.no_rows()
        self.arrived = self.no_rows()

    def no_rows(self):
        empty = {}
        for k in self.nodes:
            empty[k] = {}
        return empty

    def change_of_node(self, k, changes):
        """Node k's change in a tick in which the nodes ahead of it have these changes."""
        kind = self.nodes[k][0]
        x = self.nodes[k][1]
        y = self.nodes[k][2]
        n = self.nodes[k][3]
        if kind == INPUT:
            return self.arrived[k]
        if kind == DELAY:
            return self.changes[x]
        if kind == PLUS:
            return sum_of(changes[x], changes[y])
        if kind == MINUS:
            return difference_of(changes[x], changes[y])
        if kind == SWAP:
            return swapped(changes[x])
        if kind == KEEP:
            return kept(changes[x], y, n)
        if kind == MOVE:
            return moved(changes[x], y, n)
        if kind == JOIN:
            return change_of_join(self.totals[x], changes[x], self.totals[y], changes[y])
        return change_by_first(QUESTIONS_BY_FIRST[kind], self.totals[x], changes[x])

    def tick(self):
        """Whether there was a tick: if a limit would be passed, all is as it was."""
        changes = {}
        totals = {}
        for k in self.nodes:
            changes[k] = self.change_of_node(k, changes)
            totals[k] = sum_of(self.totals[k], changes[k])
            if not (within_limits(changes[k]) and within_limits(totals[k])):
                return False
        self.changes = changes
        self.totals = totals
        self.ticks += 1
        self.forget()
        return True

    def forget(self):
        """What has come in since the last tick is gone."""
        self.arrived = self.no_rows()


def rows_together(collections_by_node):
    return sum([len(x) for x in collections_by_node.values()])


def told_of_node(collections_by_node, k):
    """Node k's collection, number by number."""
    if k not in collections_by_node:
        return [-1]
    x = collections_by_node[k]
    told = [len(x)]
    for row in sorted(x):
        told.extend([row[0], row[1], x[row]])
    return told


def answer_circuit(circuit, numbers):
    refusal = circuit_refusal(numbers)
    if refusal < 0:
        return [refusal]
    circuit.begin(numbers)
    return [len(circuit.nodes)]


def answer_change(circuit, numbers):
    k = numbers[0]
    a = numbers[1]
    b = numbers[2]
    count = numbers[3]
    if k not in circuit.nodes:
        return [-1]
    if circuit.nodes[k][0] != INPUT:
        return [-4]
    if not is_row(a, b):
        return [-2]
    if abs(count) > MOST_COUNT_COMING:
        return [-3]
    add_row(circuit.arrived[k], (a, b), count)
    return [0]


def answer_tick(circuit, numbers):
    if not circuit.tick():
        return [-9]
    return [rows_together(circuit.changes)]


def answer_delta(circuit, numbers):
    return told_of_node(circuit.changes, numbers[0])


def answer_total(circuit, numbers):
    return told_of_node(circuit.totals, numbers[0])


def answer_holds(circuit, numbers):
    k = numbers[0]
    if k not in circuit.nodes:
        return [-1]
    if not is_row(numbers[1], numbers[2]):
        return [-2]
    return [1, circuit.totals[k].get((numbers[1], numbers[2]), 0)]


def answer_pending(circuit, numbers):
    return told_of_node(circuit.arrived, numbers[0])


def answer_forget(circuit, numbers):
    forgotten = rows_together(circuit.arrived)
    circuit.forget()
    return [forgotten]


def answer_ticks(circuit, numbers):
    return [circuit.ticks]


CIRCUIT_CALL = 0
CALLS = {
    0: answer_circuit, 1: answer_change, 2: answer_tick, 3: answer_delta, 4: answer_total,
    5: answer_holds, 6: answer_pending, 7: answer_forget, 8: answer_ticks,
}

# How many numbers a call has; circuit tells that itself.
LENGTHS = {1: 4, 2: 0, 3: 1, 4: 1, 5: 3, 6: 1, 7: 0, 8: 0}


def answers(calls):
    """For each of the calls, one behind another: how many numbers are answered, then these."""
    circuit = Circuit()
    answered = []
    at = 0
    while at < len(calls):
        call = calls[at]
        at += 1
        if call == CIRCUIT_CALL:
            length = calls[at]
            at += 1
        else:
            length = LENGTHS[call]
        answer = CALLS[call](circuit, calls[at:at + length])
        at += length
        answered.append(len(answer))
        answered.extend(answer)
    return answered
