"""holds, and promise 4 for it."""

import unittest

from tests.lines import (
    INPUT, ask, change, circuit, counts, delay, distinct, forget, greatest, holds, join, keep, last, least, minus, move,
    plus, rows, swap, tick, total,
)

# A node of every sort; what comes to 1 and 2 is in CAME, and what each node's value then is in VALUES, by hand.
EVERY_SORT = (
    INPUT, INPUT, plus(1, 2), minus(1, 2), swap(1), keep(1, 1, 5), move(1, 1, 998), join(1, 2), distinct(1), counts(1),
    least(1), greatest(1), delay(1),
)
CAME = ((1, 1, 5, 2), (1, 1, 6, 1), (1, 2, 5, -1), (2, 5, 7, 3), (2, 1, 5, 4))
VALUES = {
    1: {(1, 5): 2, (1, 6): 1, (2, 5): -1},
    2: {(1, 5): 4, (5, 7): 3},
    3: {(1, 5): 6, (1, 6): 1, (2, 5): -1, (5, 7): 3},
    4: {(1, 5): -2, (1, 6): 1, (2, 5): -1, (5, 7): -3},
    5: {(5, 1): 2, (5, 2): -1, (6, 1): 1},
    6: {(1, 5): 2, (2, 5): -1},
    7: {(2, 3): 2, (2, 4): 1, (3, 3): -1},
    8: {(1, 7): 6, (2, 7): -3},
    9: {(1, 5): 1, (1, 6): 1},
    10: {(1, 3): 1},
    11: {(1, 5): 1},
    12: {(1, 6): 1},
    13: {(1, 5): 2, (1, 6): 1, (2, 5): -1},
}
SOME_ROWS = sorted({row for value in VALUES.values() for row in value} | {(0, 0), (7, 1), (999, 999)})


class TheCount(unittest.TestCase):
    def test_above_and_below_0(self):
        self.assertEqual(
            ask(change(1, 4, 5, 3), change(1, 4, 6, -2), tick(), holds(1, 4, 5), holds(1, 4, 6))[3:], [[1, 3], [1, -2]]
        )

    def test_of_a_row_that_is_not_there(self):
        self.assertEqual(
            ask(change(1, 4, 5, 3), tick(), holds(1, 5, 4), holds(1, 4, 4), holds(1, 5, 5), holds(2, 0, 0))[2:],
            [[1, 0]] * 4,
        )

    def test_of_a_row_that_came_to_0(self):
        self.assertEqual(
            ask(change(1, 4, 5, 3), tick(), change(1, 4, 5, -3), tick(), holds(1, 4, 5), holds(2, 4, 5))[4:],
            [[1, 0], [1, 0]],
        )
        self.assertEqual(last(change(1, 4, 5, 3), change(1, 4, 5, -3), tick(), holds(1, 4, 5)), [1, 0])

    def test_it_is_of_the_value_and_not_of_the_last_change(self):
        self.assertEqual(
            ask(change(1, 4, 5, 3), tick(), change(1, 4, 5, 4), tick(), holds(1, 4, 5), tick(), holds(1, 4, 5))[4:],
            [[1, 7], [0], [1, 7]],
        )

    def test_of_the_node_that_is_asked_about_alone(self):
        self.assertEqual(
            ask(circuit(INPUT, INPUT), change(2, 4, 5, 3), tick(), holds(1, 4, 5), holds(2, 4, 5))[3:], [[1, 0], [1, 3]]
        )

    def test_the_edges_of_a_row(self):
        corners = ((0, 0), (0, 999), (999, 0), (999, 999))
        came = [change(1, a, b, count) for count, (a, b) in enumerate(corners, 1)]
        found = ask(*came, tick(), *[holds(1, a, b) for a, b in corners])
        self.assertEqual(found[5:], [[1, 1], [1, 2], [1, 3], [1, 4]])

    def test_the_largest_counts(self):
        nodes = circuit(INPUT, join(1, 1), join(2, 1))
        for sign in (1, -1):
            with self.subTest(sign=sign):
                self.assertEqual(
                    last(nodes, change(1, 0, 0, 1000 * sign), tick(), holds(3, 0, 0)), [1, 1000000000 * sign]
                )

    def test_asked_twice_it_is_the_same(self):
        self.assertEqual(
            ask(change(1, 4, 5, 3), tick(), holds(1, 4, 5), holds(1, 4, 5), holds(1, 9, 9), total(1))[2:],
            [[1, 3], [1, 3], [1, 0], rows((4, 5, 3))],
        )


class EverySort(unittest.TestCase):
    AHEAD = [circuit(*EVERY_SORT)] + [change(*numbers) for numbers in CAME] + [tick(), tick()]

    def test_each_row_of_each_node(self):
        for k, value in VALUES.items():
            expected = [[1, value.get(row, 0)] for row in SOME_ROWS]
            with self.subTest(k=k):
                found = ask(*self.AHEAD, *[holds(k, a, b) for a, b in SOME_ROWS], total(k))[len(self.AHEAD):]
                self.assertEqual(found[:-1], expected)
                self.assertEqual(found[-1], rows(*[(a, b, value[(a, b)]) for a, b in sorted(value)]))

    def test_every_sort_is_there(self):
        self.assertEqual(sorted({node[0] for node in EVERY_SORT}), list(range(12)))

    def test_a_delay_one_tick_earlier(self):
        self.assertEqual(last(*self.AHEAD[:-1], holds(13, 1, 5)), [1, 0])
        self.assertEqual(last(*self.AHEAD, holds(13, 1, 5)), [1, 2])


class WhatHadNoTick(unittest.TestCase):
    def test_ahead_of_the_first_tick(self):
        self.assertEqual(ask(holds(1, 0, 0), holds(2, 999, 999)), [[1, 0], [1, 0]])
        for k in VALUES:
            with self.subTest(k=k):
                self.assertEqual(last(*EverySort.AHEAD[:-2], holds(k, 1, 5)), [1, 0])

    def test_a_row_that_has_come_in(self):
        self.assertEqual(
            ask(change(1, 4, 5, 3), holds(1, 4, 5), tick(), change(1, 4, 5, 9), change(1, 6, 6, 1), holds(1, 4, 5),
                holds(1, 6, 6), holds(2, 6, 6))[1:],
            [[1, 0], [2], [0], [0], [1, 3], [1, 0], [1, 0]],
        )

    def test_behind_a_refused_tick(self):
        # 1000 and one more would have a third power past the limit.
        nodes = circuit(INPUT, join(1, 1), join(2, 1))
        self.assertEqual(
            ask(
                nodes, change(1, 0, 0, 10), change(1, 0, 1, 1), tick(), change(1, 0, 0, 991), change(1, 5, 5, 1),
                tick(), holds(1, 0, 0), holds(3, 0, 0), holds(1, 5, 5), holds(1, 0, 1),
            )[6:],
            [[-9], [1, 10], [1, 1000], [1, 0], [1, 1]],
        )

    def test_behind_a_refused_first_tick(self):
        nodes = circuit(INPUT, join(1, 1), join(2, 1))
        self.assertEqual(
            ask(nodes, change(1, 0, 0, 1000), change(1, 0, 0, 1), tick(), holds(1, 0, 0), holds(3, 0, 0))[3:],
            [[-9], [1, 0], [1, 0]],
        )

    def test_behind_forget_and_circuit(self):
        self.assertEqual(
            ask(change(1, 4, 5, 3), tick(), forget(), holds(1, 4, 5), circuit(INPUT), holds(1, 4, 5))[2:],
            [[0], [1, 3], [1], [1, 0]],
        )


class Refusals(unittest.TestCase):
    def test_no_node(self):
        for how_many in (1, 2, 16):
            nodes = circuit(*[INPUT] * how_many)
            for k, known in ((-2, False), (-1, False), (0, False), (1, True), (how_many, True), (how_many + 1, False)):
                with self.subTest(how_many=how_many, k=k):
                    self.assertEqual(last(nodes, holds(k, 3, 4)), [1, 0] if known else [-1])

    def test_no_node_in_the_circuit_at_the_beginning(self):
        self.assertEqual(
            ask(change(1, 3, 4, 1), tick(), holds(0, 3, 4), holds(1, 3, 4), holds(2, 3, 4), holds(3, 3, 4))[2:],
            [[-1], [1, 1], [1, 1], [-1]],
        )

    def test_no_row(self):
        for number, expected in ((-1, [-2]), (0, [1, 0]), (999, [1, 0]), (1000, [-2])):
            for k in (1, 2):
                with self.subTest(number=number, k=k):
                    self.assertEqual(last(holds(k, number, 5)), expected)
                    self.assertEqual(last(holds(k, 5, number)), expected)
                    self.assertEqual(last(holds(k, number, number)), expected)

    def test_of_several_the_one_told_first(self):
        for k in (-1, 0, 3):
            for a, b in ((-1, 5), (5, -1), (1000, 5), (5, 1000), (-1, 1000)):
                with self.subTest(k=k, a=a, b=b):
                    self.assertEqual(last(holds(k, a, b)), [-1])


if __name__ == "__main__":
    unittest.main()
