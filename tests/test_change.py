"""Promise 2: what change answers, and what it refuses."""

import unittest

from tests.lines import INPUT, ask, change, circuit, delay, delta, distinct, last, rows, swap, tick, total


class WhatComesIn(unittest.TestCase):
    def test_it_is_added_up_until_the_tick(self):
        self.assertEqual(
            ask(
                change(1, 3, 4, 5), change(1, 3, 4, -7), change(1, 0, 9, 1), total(1), delta(1), tick(), total(1),
            )[3:],
            [[0], [0], [3], rows((0, 9, 1), (3, 4, -2))],
        )

    def test_what_comes_to_0_is_no_row(self):
        self.assertEqual(
            ask(change(1, 3, 4, 5), change(1, 3, 4, -5), tick(), delta(1), total(1))[2:], [[0], [0], [0]]
        )

    def test_it_comes_to_its_own_input_alone(self):
        self.assertEqual(
            ask(circuit(INPUT, INPUT), change(2, 3, 4, 5), tick(), total(1), total(2))[2:],
            [[1], [0], rows((3, 4, 5))],
        )

    def test_it_comes_once(self):
        self.assertEqual(
            ask(change(1, 3, 4, 5), tick(), tick(), delta(1), total(1))[1:], [[2], [0], [0], rows((3, 4, 5))]
        )


class Refusals(unittest.TestCase):
    NODES = (INPUT, distinct(1), INPUT, swap(3), delay(1))

    def ask_change(self, *numbers):
        return last(circuit(*self.NODES), change(*numbers))

    def test_no_node(self):
        self.assertEqual(self.ask_change(0, 1, 1, 1), [-1])
        self.assertEqual(self.ask_change(-1, 1, 1, 1), [-1])
        self.assertEqual(self.ask_change(6, 1, 1, 1), [-1])
        self.assertEqual(self.ask_change(1, 1, 1, 1), [0])
        self.assertEqual(self.ask_change(3, 1, 1, 1), [0])

    def test_no_node_in_a_circuit_of_sixteen(self):
        self.assertEqual(last(circuit(*[INPUT] * 16), change(16, 1, 1, 1)), [0])
        self.assertEqual(last(circuit(*[INPUT] * 16), change(17, 1, 1, 1)), [-1])

    def test_no_input(self):
        for k in (2, 4, 5):
            with self.subTest(k=k):
                self.assertEqual(self.ask_change(k, 1, 1, 1), [-4])

    def test_no_input_of_each_other_sort(self):
        for kind in range(1, 12):
            node = (kind, 1, 1 if kind in (1, 2, 6) else 0, 0)
            with self.subTest(kind=kind):
                self.assertEqual(last(circuit(INPUT, node), change(2, 1, 1, 1)), [-4])

    def test_no_row(self):
        for number, expected in ((-1, -2), (0, 0), (999, 0), (1000, -2)):
            with self.subTest(number=number):
                self.assertEqual(self.ask_change(1, number, 5, 1), [expected])
                self.assertEqual(self.ask_change(1, 5, number, 1), [expected])

    def test_the_count(self):
        for count, expected in ((-1001, -3), (-1000, 0), (0, 0), (1000, 0), (1001, -3)):
            with self.subTest(count=count):
                self.assertEqual(self.ask_change(1, 5, 5, count), [expected])

    def test_what_has_come_in_may_be_more_than_one_change_may_bring(self):
        self.assertEqual(
            ask(change(1, 1, 1, 1000), change(1, 1, 1, 1000), change(1, 2, 2, -1000), change(1, 2, 2, -1000),
                tick(), total(1))[4:],
            [[3], rows((1, 1, 2000), (2, 2, -2000))],
        )

    def test_a_count_of_0_brings_no_row(self):
        self.assertEqual(ask(change(1, 5, 5, 0), tick(), total(1)), [[0], [0], [0]])

    def test_of_several_the_one_told_first(self):
        self.assertEqual(self.ask_change(9, -1, 1000, 5000), [-1])
        self.assertEqual(self.ask_change(9, 1, 1, 5000), [-1])
        self.assertEqual(self.ask_change(2, -1, 1000, 5000), [-4])
        self.assertEqual(self.ask_change(2, 1, 1, 5000), [-4])
        self.assertEqual(self.ask_change(2, 1, 1000, 1), [-4])
        self.assertEqual(self.ask_change(1, -1, 1, 5000), [-2])
        self.assertEqual(self.ask_change(1, 1, 1000, -1001), [-2])

    def test_nothing_comes_in_by_a_refused_change(self):
        self.assertEqual(
            ask(
                circuit(*self.NODES), change(1, 5, 5, 2), change(0, 5, 5, 1), change(2, 5, 5, 1), change(1, 1000, 5, 1),
                change(1, 5, 5, 1001), tick(), total(1), total(3),
            )[2:],
            [[-1], [-4], [-2], [-3], [2], rows((5, 5, 2)), [0]],
        )


if __name__ == "__main__":
    unittest.main()
