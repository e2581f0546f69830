"""pending, and promise 4 for it."""

import unittest

from tests.lines import (
    INPUT, ask, change, circuit, circuit_of_numbers, delay, delta, distinct, forget, holds, join, last, pending, plus,
    rows, swap, tick, ticks, total,
)

# A count of more than 1000 at node 1 has a third power past the limit.
POWERS = circuit(INPUT, join(1, 1), join(2, 1), INPUT)


class WhatHasComeIn(unittest.TestCase):
    def test_no_rows_at_the_beginning(self):
        self.assertEqual(ask(pending(1), pending(2)), [[0], [0]])

    def test_rows_are_in_order_by_a_then_by_b(self):
        came = [(100, 2), (2, 100), (20, 3), (3, 20), (2, 20), (2, 3), (999, 0), (0, 999), (0, 0)]
        for order in (came, came[::-1], sorted(came), sorted(came, key=lambda row: (row[1], row[0]))):
            line = [change(1, a, b, 1 + a) for a, b in order]
            with self.subTest(order=order):
                self.assertEqual(last(*line, pending(1)), rows(*[(a, b, 1 + a) for a, b in sorted(came)]))

    def test_counts_are_added(self):
        self.assertEqual(
            ask(change(1, 3, 4, 5), pending(1), change(1, 3, 4, -7), pending(1))[1::2],
            [rows((3, 4, 5)), rows((3, 4, -2))],
        )

    def test_they_may_be_more_than_one_change_may_bring(self):
        self.assertEqual(
            last(
                change(1, 3, 4, -1000), change(1, 0, 9, 1000), change(1, 3, 4, -1000), change(1, 0, 9, 1000),
                pending(1),
            ),
            rows((0, 9, 2000), (3, 4, -2000)),
        )

    def test_a_count_that_comes_to_0_is_no_row(self):
        self.assertEqual(
            ask(change(1, 3, 4, 5), change(1, 6, 6, 1), change(1, 3, 4, -5), pending(1), change(1, 6, 6, -1),
                pending(1), change(1, 3, 4, 2), pending(1))[3::2],
            [rows((6, 6, 1)), [0], rows((3, 4, 2))],
        )

    def test_a_change_with_count_0_leaves_no_row(self):
        self.assertEqual(
            ask(change(1, 3, 4, 0), pending(1), change(1, 3, 4, 2), change(1, 3, 4, 0), pending(1))[1::3],
            [[0], rows((3, 4, 2))],
        )

    def test_of_each_input_its_own(self):
        nodes = circuit(INPUT, INPUT, plus(1, 2), INPUT)
        self.assertEqual(
            ask(nodes, change(4, 1, 1, 1), change(1, 2, 2, 2), change(4, 2, 2, 3), pending(1), pending(2),
                pending(4))[4:],
            [rows((2, 2, 2)), [0], rows((1, 1, 1), (2, 2, 3))],
        )

    def test_it_is_what_came_in_and_not_the_value(self):
        self.assertEqual(
            ask(change(1, 1, 1, 5), tick(), change(1, 1, 1, -2), pending(1), total(1), delta(1), holds(1, 1, 1))[3:],
            [rows((1, 1, -2)), rows((1, 1, 5)), rows((1, 1, 5)), [1, 5]],
        )

    def test_what_takes_the_value_back_is_still_a_row(self):
        self.assertEqual(last(change(1, 1, 1, 5), tick(), change(1, 1, 1, -5), pending(1)), rows((1, 1, -5)))

    def test_asking_changes_nothing(self):
        self.assertEqual(
            ask(change(1, 1, 1, 5), pending(1), pending(1), tick(), total(1), delta(1))[1:],
            [rows((1, 1, 5)), rows((1, 1, 5)), [2], rows((1, 1, 5)), rows((1, 1, 5))],
        )

    def test_a_row_of_every_change_that_a_line_has_room_for(self):
        came = [change(1, a, 999 - a, 1) for a in range(59, 0, -1)]
        self.assertEqual(last(*came, pending(1)), rows(*[(a, 999 - a, 1) for a in range(1, 60)]))


class WhereItIsGone(unittest.TestCase):
    AHEAD = [circuit(INPUT, distinct(1), INPUT), change(1, 1, 1, 5), change(3, 2, 2, -1)]

    def test_behind_a_tick(self):
        self.assertEqual(ask(*self.AHEAD, tick(), pending(1), pending(3))[4:], [[0], [0]])

    def test_behind_forget(self):
        self.assertEqual(ask(*self.AHEAD, forget(), pending(1), pending(3))[4:], [[0], [0]])

    def test_behind_circuit(self):
        self.assertEqual(ask(*self.AHEAD, self.AHEAD[0], pending(1), pending(3))[4:], [[0], [0]])

    def test_what_comes_then_is_there_alone(self):
        for call in (tick(), forget(), self.AHEAD[0]):
            with self.subTest(call=call):
                self.assertEqual(
                    ask(*self.AHEAD, call, change(1, 4, 4, 1), pending(1), pending(3))[5:], [rows((4, 4, 1)), [0]]
                )


class WhereItIsStillThere(unittest.TestCase):
    def test_behind_a_refused_tick(self):
        line = [POWERS, change(1, 0, 0, 1000), change(1, 0, 0, 1), change(4, 7, 8, -3)]
        self.assertEqual(
            ask(*line, tick(), pending(1), pending(4), tick(), pending(1), change(1, 0, 0, -1), pending(1), tick(),
                pending(1), total(1))[4:],
            [
                [-9], rows((0, 0, 1001)), rows((7, 8, -3)), [-9], rows((0, 0, 1001)), [0], rows((0, 0, 1000)), [4],
                [0], rows((0, 0, 1000)),
            ],
        )

    def test_behind_a_tick_refused_for_its_rows(self):
        # Node 3 would have a row for each of ten rows of node 1 and each of eleven of node 2.
        tens = [change(1, a, 0, 1) for a in range(10)] + [change(2, 0, b, 1) for b in range(11)]
        found = ask(circuit(INPUT, INPUT, join(1, 2)), *tens, tick(), pending(1), pending(2), pending(3))
        self.assertEqual(found[-4], [-9])
        self.assertEqual(found[-3], rows(*[(a, 0, 1) for a in range(10)]))
        self.assertEqual(found[-2], rows(*[(0, b, 1) for b in range(11)]))
        self.assertEqual(found[-1], [0])

    def test_behind_any_other_refused_call(self):
        for refused, answer in (
            (circuit_of_numbers([]), -1), (circuit((12, 0, 0, 0)), -2), (circuit(delay(2)), -3),
            (change(0, 1, 1, 1), -1), (change(2, 1, 1, 1), -4), (change(1, 1, 1000, 1), -2),
            (change(1, 1, 1, 1001), -3), (delta(5), -1), (total(0), -1), (holds(5, 1, 1), -1),
            (holds(1, -1, 1), -2), (pending(0), -1),
        ):
            with self.subTest(refused=refused):
                self.assertEqual(
                    ask(POWERS, change(1, 1, 1, 5), change(4, 2, 2, -1), refused, pending(1), pending(4))[3:],
                    [[answer], rows((1, 1, 5)), rows((2, 2, -1))],
                )

    def test_behind_calls_that_only_ask(self):
        asking = [delta(1), total(1), holds(1, 1, 1), pending(1), pending(2), ticks()]
        self.assertEqual(last(change(1, 1, 1, 5), *asking, pending(1)), rows((1, 1, 5)))


class OfANodeThatIsNoInput(unittest.TestCase):
    def test_each_other_sort(self):
        for kind in range(1, 12):
            node = (kind, 1, 1 if kind in (1, 2, 6) else 0, 0)
            line = [circuit(INPUT, node), change(1, 0, 0, 5), pending(2), tick(), change(1, 0, 0, -5), pending(2)]
            with self.subTest(kind=kind):
                found = ask(*line)
                self.assertEqual(found[2], [0])
                self.assertEqual(found[5], [0])

    def test_of_a_loop(self):
        nodes = circuit(INPUT, delay(3), plus(1, 2), swap(3))
        self.assertEqual(
            ask(nodes, change(1, 0, 1, 5), tick(), change(1, 0, 1, 5), pending(2), pending(3), pending(4),
                pending(1))[4:],
            [[0], [0], [0], rows((0, 1, 5))],
        )

    def test_a_refused_change_brings_it_nothing(self):
        self.assertEqual(ask(change(2, 1, 1, 1), pending(2)), [[-4], [0]])


class NoNode(unittest.TestCase):
    def test_of_each_number_of_nodes(self):
        for how_many in (1, 2, 16):
            nodes = circuit(*[INPUT] * how_many)
            for k, known in ((-2, False), (-1, False), (0, False), (1, True), (how_many, True), (how_many + 1, False)):
                with self.subTest(how_many=how_many, k=k):
                    self.assertEqual(last(nodes, pending(k)), [0] if known else [-1])

    def test_in_the_circuit_at_the_beginning(self):
        self.assertEqual(
            ask(change(1, 1, 1, 1), pending(0), pending(3), pending(-1))[1:], [[-1], [-1], [-1]]
        )


if __name__ == "__main__":
    unittest.main()
