"""forget: what has come in since the last tick is as if it hadn't come."""

import unittest

from tests.lines import (
    INPUT, ask, change, circuit, delay, delta, distinct, forget, holds, join, last, pending, plus, rows, tick, ticks,
    total,
)

THREE_INPUTS = circuit(INPUT, distinct(1), INPUT, plus(1, 3), INPUT)


class HowManyRows(unittest.TestCase):
    def test_nothing_has_come_in(self):
        self.assertEqual(ask(forget()), [[0]])
        self.assertEqual(ask(THREE_INPUTS, forget())[1:], [[0]])

    def test_called_twice(self):
        self.assertEqual(ask(change(1, 1, 1, 1), forget(), forget())[1:], [[1], [0]])

    def test_of_one_input(self):
        self.assertEqual(last(change(1, 1, 1, 1), change(1, 1, 2, 1), change(1, 2, 1, 1), forget()), [3])

    def test_of_several_inputs(self):
        self.assertEqual(
            ask(THREE_INPUTS, change(1, 1, 1, 1), change(3, 1, 2, 1), change(5, 3, 3, 1), change(5, 4, 4, 1),
                forget())[5:],
            [[4]],
        )

    def test_the_same_row_at_several_inputs(self):
        self.assertEqual(
            last(THREE_INPUTS, change(1, 1, 1, 1), change(3, 1, 1, -1), change(5, 1, 1, 2), forget()), [3]
        )

    def test_rows_are_counted_and_not_changes_or_counts(self):
        self.assertEqual(last(change(1, 1, 1, 700), change(1, 1, 1, 1), change(1, 2, 2, -5), forget()), [2])

    def test_rows_whose_count_came_to_0_are_none(self):
        self.assertEqual(
            last(THREE_INPUTS, change(1, 1, 1, 5), change(3, 2, 2, 1), change(1, 1, 1, -5), forget()), [1]
        )
        self.assertEqual(last(change(1, 1, 1, 5), change(1, 1, 1, -5), forget()), [0])
        self.assertEqual(last(change(1, 1, 1, 0), forget()), [0])

    def test_only_what_came_since_the_last_tick(self):
        self.assertEqual(
            ask(change(1, 1, 1, 1), change(1, 2, 2, 1), tick(), forget(), change(1, 3, 3, 1), forget())[3:],
            [[0], [0], [1]],
        )

    def test_refused_changes_bring_no_rows(self):
        self.assertEqual(
            last(change(2, 1, 1, 1), change(1, 1000, 1, 1), change(1, 1, 1, 1001), change(3, 1, 1, 1), forget()), [0]
        )

    def test_behind_circuit(self):
        self.assertEqual(ask(change(1, 1, 1, 1), circuit(INPUT), forget())[2], [0])

    def test_a_row_of_every_change_that_a_line_has_room_for(self):
        self.assertEqual(last(*[change(1, a, a, -1) for a in range(59)], forget()), [59])


class AsIfTheyHadNotCome(unittest.TestCase):
    def test_the_next_tick(self):
        self.assertEqual(
            ask(
                THREE_INPUTS, change(1, 1, 1, 1), tick(), change(1, 1, 1, -1), change(1, 2, 2, 2), change(5, 3, 3, 3),
                forget(), tick(), total(1), total(2), total(4), total(5), delta(1), delta(4), delta(5),
            )[6:],
            [[3], [0], rows((1, 1, 1)), rows((1, 1, 1)), rows((1, 1, 1)), [0], [0], [0], [0]],
        )

    def test_what_comes_behind_it_comes(self):
        self.assertEqual(
            ask(change(1, 1, 1, 5), forget(), change(1, 1, 1, -2), change(1, 2, 2, 1), pending(1), tick(), total(1),
                total(2))[4:],
            [rows((1, 1, -2), (2, 2, 1)), [3], rows((1, 1, -2), (2, 2, 1)), rows((2, 2, 1))],
        )

    def test_what_had_come_ahead_of_an_earlier_tick_stays(self):
        self.assertEqual(
            ask(change(1, 1, 1, 5), tick(), forget(), forget(), tick(), total(1), delta(1))[2:],
            [[0], [0], [0], rows((1, 1, 5)), [0]],
        )

    def test_behind_a_refused_tick_the_next_goes_through(self):
        # A count of 1001 has a third power past the limit.
        nodes = circuit(INPUT, join(1, 1), join(2, 1), INPUT)
        self.assertEqual(
            ask(
                nodes, change(1, 0, 0, 10), tick(), change(1, 0, 0, 991), change(4, 1, 1, 1), tick(), forget(), tick(),
                total(1), total(3), total(4), ticks(),
            )[5:],
            [[-9], [2], [0], rows((0, 0, 10)), rows((0, 0, 1000)), [0], [2]],
        )

    def test_with_circuits_of_no_inputs(self):
        self.assertEqual(ask(circuit(delay(1)), forget(), tick(), forget())[1:], [[0], [0], [0]])


class WhatStays(unittest.TestCase):
    NODES = circuit(INPUT, INPUT, plus(1, 2), delay(3), delay(4))
    AHEAD = [NODES, change(1, 1, 1, 1), tick(), change(2, 1, 1, 2), change(1, 5, 5, -1), tick()]
    CAME = [change(1, 1, 1, -1), change(2, 7, 7, 7)]
    ASKED = [delta(k) for k in range(1, 6)] + [total(k) for k in range(1, 6)] + [
        holds(1, 1, 1), holds(2, 7, 7), holds(4, 1, 1), ticks(),
    ]

    def test_values_and_last_changes_and_the_number_of_ticks(self):
        expected = ask(*self.AHEAD, *self.ASKED)[len(self.AHEAD):]
        found = ask(*self.AHEAD, *self.CAME, forget(), *self.ASKED)[len(self.AHEAD) + len(self.CAME):]
        self.assertEqual(found[0], [2])
        self.assertEqual(found[1:], expected)
        self.assertEqual(expected[0], rows((5, 5, -1)))
        self.assertEqual(expected[-1], [2])

    def test_delays(self):
        # What node 3 had in the last two ticks comes through, whatever was forgotten.
        going_on = [tick(), delta(4), delta(5), tick(), total(4), total(5), tick(), delta(4), delta(5)]
        expected = ask(*self.AHEAD, *going_on)[len(self.AHEAD):]
        found = ask(*self.AHEAD, *self.CAME, forget(), *going_on)[len(self.AHEAD) + len(self.CAME) + 1:]
        self.assertEqual(found, expected)
        self.assertEqual(expected[1], rows((1, 1, 2), (5, 5, -1)))
        self.assertEqual(expected[2], rows((1, 1, 1)))

    def test_the_nodes(self):
        self.assertEqual(
            ask(self.NODES, forget(), total(5), total(6), change(2, 1, 1, 1), change(3, 1, 1, 1))[1:],
            [[0], [0], [-1], [0], [-4]],
        )


if __name__ == "__main__":
    unittest.main()
