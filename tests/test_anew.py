"""What the changes add up to is just what the question would give, asked anew of all that has come."""

import unittest

from tests.anew import Anew, sum_of, value_by_table
from tests.lines import (
    INPUT, LARGEST, LEAST, ask, change, circuit, circuit_of_numbers, counts, delay, delta, distinct, forget, greatest,
    holds, join, keep, least, minus, move, pending, plus, swap, tick, ticks, total,
)


class Dice:
    """Numbers that look like chance and are the same at every run."""

    def __init__(self, seed):
        self.state = seed * 2654435761 % 2 ** 32

    def below(self, n):
        self.state = (self.state * 1664525 + 1013904223) % 2 ** 32
        return (self.state >> 8) % n

    def one_of(self, choices):
        return choices[self.below(len(choices))]

    def once_in(self, n):
        return self.below(n) == 0


def some_node(dice, k, how_many):
    """Node k of so many, of any sort; it is made of nodes it may be made of."""
    kind = dice.below(12) if k > 1 else dice.one_of((0, 0, 11))
    if kind == 0:
        return INPUT
    if kind == 11:
        return delay(1 + dice.below(how_many))
    x = 1 + dice.below(k - 1)
    y = 1 + dice.below(k - 1)
    if kind in (1, 2, 6):
        return (kind, x, y, 0)
    if kind == 4:
        return keep(x, dice.below(6), dice.one_of((0, 1, 2, 3, 998, 999)))
    if kind == 5:
        return move(x, dice.one_of((0, 1, 2, 999)), dice.one_of((0, 1, 998, 999)))
    return (kind, x, 0, 0)


def some_circuit(dice, most=16):
    how_many = 1 + dice.below(most)
    return [some_node(dice, k, how_many) for k in range(1, how_many + 1)]


def broken_circuit(dice):
    numbers = [number for node in some_circuit(dice) for number in node]
    for again in range(1 + dice.below(2)):
        numbers[dice.below(len(numbers))] = dice.one_of((-1, 0, 1, 5, 6, 12, 17, 999, 1000, LEAST, LARGEST))
    if dice.once_in(5):
        numbers.append(0)
    return circuit_of_numbers(numbers)


def some_number(dice, usual):
    if dice.once_in(25):
        return dice.one_of((-1, 0, 17, 999, 1000, -1001, 1001, LEAST, LARGEST))
    return dice.one_of(usual)


ROW_NUMBERS = (0, 1, 1, 2, 2, 3, 998, 999)


def some_change(dice, inputs):
    count = (1, 1, 1, 2, -1, -1, -2, 3, 0, 1000, -1000)
    return change(
        some_number(dice, inputs), some_number(dice, ROW_NUMBERS), some_number(dice, ROW_NUMBERS),
        some_number(dice, count),
    )


def some_asking(dice, how_many, inputs):
    """A call that changes nothing; what is pending is asked of inputs more often than of others."""
    every_k = list(range(1, how_many + 1))
    call = dice.one_of((delta, delta, total, total, holds, holds, pending, ticks))
    if call == ticks:
        return ticks()
    if call == holds:
        return holds(some_number(dice, every_k), some_number(dice, ROW_NUMBERS), some_number(dice, ROW_NUMBERS))
    if call == pending:
        return pending(some_number(dice, every_k + inputs * how_many))
    return call(some_number(dice, every_k))


def some_line(dice):
    """60 calls, with refused ones among them; some lines are about the circuit at the beginning for a while."""
    nodes = [INPUT, distinct(1)]
    calls = []
    begins_with_circuit = not dice.once_in(6)
    while len(calls) < 58:
        inputs = [k for k, node in enumerate(nodes, 1) if node == INPUT] or [1]
        if (begins_with_circuit and not calls) or dice.once_in(40):
            nodes = some_circuit(dice)
            calls.append(circuit(*nodes))
        elif dice.once_in(30):
            # Some of these are whole after all, so the nodes that are asked about below may be others.
            calls.append(broken_circuit(dice))
        elif dice.once_in(5):
            calls.append(tick())
        elif dice.once_in(30):
            calls.append(forget())
        elif dice.once_in(3):
            calls.append(some_asking(dice, len(nodes), inputs))
        else:
            calls.append(some_change(dice, inputs))
    return calls + [tick(), total(len(nodes))]


def collection(told):
    """The collection that is told by these numbers."""
    triples = [told[at:at + 3] for at in range(1, len(told), 3)]
    return {(a, b): count for a, b, count in triples}


def collections_told(calls, nodes, call):
    """What the call (delta or total) tells of each node behind these calls."""
    return {k: collection(ask(*calls, call(k))[-1]) for k in nodes}


EVERY_SORT = (
    INPUT, INPUT, delay(16), plus(1, 2), minus(4, 3), swap(5), keep(6, 3, 0), move(7, 999, 1), join(4, 5), distinct(9),
    counts(4), least(4), greatest(5), join(13, 12), distinct(14), plus(15, 8),
)


def kinds_of_answer(call, answer, at):
    """What a line has come by, in words and numbers, if its call number `at` is answered so."""
    kinds = [(call[0], min(answer[0], 0))]
    if answer[0] > 1:
        kinds.append((call[0], "more than one"))
    if call[0] == 0 and answer[0] > 0 and at > 20:
        kinds.append("circuit again")
    if call[0] == 5 and answer[0] == 1:
        sign = "above 0" if answer[1] > 0 else "below 0" if answer[1] < 0 else "of 0"
        kinds.append(f"a count {sign}")
    return kinds


class AskedAnew(unittest.TestCase):
    def test_lines_of_all_sorts(self):
        seen = {}
        for seed in range(1500):
            calls = some_line(Dice(seed))
            anew = Anew()
            expected = [anew.answer(call) for call in calls]
            self.assertEqual(ask(*calls), expected, f"line {seed}")
            for at, (call, answer) in enumerate(zip(calls, expected)):
                for kind in kinds_of_answer(call, answer, at):
                    seen[kind] = seen.get(kind, 0) + 1
        # The lines must come by every refusal and by every sort of answer, or they would tell little.
        wanted = [(0, -1), (0, -2), (0, -3), (1, -1), (1, -4), (1, -2), (1, -3), (2, -9), (3, -1), (4, -1)]
        wanted += [(5, -1), (5, -2), (6, -1)] + [(call, 0) for call in range(9)]
        wanted += ["circuit again", "a count above 0", "a count of 0", "a count below 0"]
        wanted += [(call, "more than one") for call in range(2, 9) if call != 5]
        for kind in wanted:
            self.assertGreater(seen.get(kind, 0), 20, kind)


class SumsOfChanges(unittest.TestCase):
    """At each node and tick, seen by what the program itself tells."""

    def check_circuit(self, nodes, dice):
        nodes = dict(enumerate(nodes, 1))
        inputs = [k for k, node in nodes.items() if node == INPUT]
        calls = [circuit(*nodes.values())]
        came = {k: {} for k in nodes}
        sums = {k: {} for k in nodes}
        ahead = {k: {} for k in nodes}
        for again in range(6):
            came_now = {k: dict(x) for k, x in came.items()}
            for k in inputs:
                for again_too in range(max(1, 4 // len(inputs))):
                    a, b, count = dice.below(3), dice.below(4), dice.one_of((-2, -1, -1, 1, 1, 2, 3))
                    calls.append(change(k, a, b, count))
                    came_now[k] = sum_of(came_now[k], {(a, b): count})
            if ask(*calls, tick())[-1] == [-9]:
                return again
            calls.append(tick())
            came = came_now
            values = collections_told(calls, nodes, total)
            for k, changed in collections_told(calls, nodes, delta).items():
                sums[k] = sum_of(sums[k], changed)
                self.assertEqual(changed, sum_of(values[k], ahead[k], -1), (nodes, k))
            self.assertEqual(sums, values, nodes)
            for k, node in nodes.items():
                if node[0] == 0:
                    expected = came[k]
                elif node[0] == 11:
                    expected = ahead[node[1]]
                else:
                    expected = value_by_table(node, values)
                self.assertEqual(values[k], expected, (nodes, k))
            ahead = values
        return 6

    def test_a_circuit_with_every_sort(self):
        for seed in range(20):
            self.assertEqual(self.check_circuit(EVERY_SORT, Dice(seed)), 6)

    def test_many_circuits(self):
        ticks = 0
        for seed in range(200):
            dice = Dice(seed)
            nodes = [INPUT] + [some_node(dice, k, 8) for k in range(2, 9)]
            ticks += self.check_circuit(nodes, dice)
        self.assertGreater(ticks, 800)


if __name__ == "__main__":
    unittest.main()
