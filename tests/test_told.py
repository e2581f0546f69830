"""delta and total, and promise 4 for both."""

import unittest

from tests.lines import INPUT, ask, change, circuit, delay, delta, last, rows, tick, total


class HowACollectionIsTold(unittest.TestCase):
    def test_rows_are_in_order_by_a_then_by_b(self):
        came = [(100, 2), (2, 100), (20, 3), (3, 20), (2, 20), (2, 3), (999, 0), (0, 999), (0, 0)]
        expected = rows(*[(a, b, 1) for a, b in sorted(came)])
        line = [change(1, a, b, 1) for a, b in came] + [tick()]
        for call in (delta(1), total(1), delta(2), total(2)):
            with self.subTest(call=call):
                self.assertEqual(last(*line, call), expected)

    def test_rows_that_came_in_other_ticks_are_in_order_too(self):
        self.assertEqual(
            last(change(1, 5, 5, 1), tick(), change(1, 1, 1, 1), tick(), change(1, 3, 3, -1), tick(), total(1)),
            rows((1, 1, 1), (3, 3, -1), (5, 5, 1)),
        )


class Delta(unittest.TestCase):
    def test_ahead_of_the_first_tick(self):
        self.assertEqual(ask(change(1, 1, 1, 1), delta(1), delta(2))[1:], [[0], [0]])

    def test_it_is_of_the_last_tick_alone(self):
        self.assertEqual(
            ask(change(1, 1, 1, 1), tick(), change(1, 1, 1, 4), change(1, 2, 2, 1), tick(), delta(1), delta(2))[5:],
            [rows((1, 1, 4), (2, 2, 1)), rows((2, 2, 1))],
        )

    def test_what_comes_behind_the_tick_is_not_in_it(self):
        self.assertEqual(ask(change(1, 1, 1, 1), tick(), change(1, 1, 1, 4), delta(1))[3], rows((1, 1, 1)))

    def test_a_tick_in_which_nothing_changed(self):
        self.assertEqual(ask(change(1, 1, 1, 1), tick(), tick(), delta(1), delta(2))[3:], [[0], [0]])

    def test_counts_may_be_below_0(self):
        self.assertEqual(
            ask(change(1, 1, 1, 3), tick(), change(1, 1, 1, -3), tick(), delta(1), delta(2))[4:],
            [rows((1, 1, -3)), rows((1, 1, -1))],
        )

    def test_asked_twice_it_is_the_same(self):
        self.assertEqual(
            ask(change(1, 1, 1, 3), tick(), delta(1), delta(1), total(1), total(1))[2:], [rows((1, 1, 3))] * 4
        )


class Total(unittest.TestCase):
    def test_ahead_of_the_first_tick(self):
        self.assertEqual(ask(change(1, 1, 1, 1), total(1), total(2))[1:], [[0], [0]])

    def test_a_row_that_is_taken_back_is_no_row(self):
        self.assertEqual(
            ask(change(1, 1, 1, 3), tick(), change(1, 1, 1, -3), tick(), total(1), total(2))[4:], [[0], [0]]
        )

    def test_it_is_the_sum_over_all_ticks(self):
        self.assertEqual(
            last(change(1, 1, 1, 3), tick(), change(1, 1, 1, -5), change(1, 0, 1, 1), tick(), tick(), total(1)),
            rows((0, 1, 1), (1, 1, -2)),
        )


class NoNode(unittest.TestCase):
    def test_of_each_number_of_nodes(self):
        for how_many in (1, 2, 16):
            nodes = circuit(*[INPUT] * how_many)
            for k, known in ((-1, False), (0, False), (1, True), (how_many, True), (how_many + 1, False)):
                with self.subTest(how_many=how_many, k=k):
                    self.assertEqual(ask(nodes, delta(k), total(k))[1:], [[0] if known else [-1]] * 2)

    def test_behind_a_tick(self):
        self.assertEqual(ask(circuit(INPUT, delay(1)), tick(), delta(3), total(0))[2:], [[-1], [-1]])


if __name__ == "__main__":
    unittest.main()
