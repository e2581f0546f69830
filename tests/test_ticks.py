"""ticks: how many ticks there were."""

import unittest

from tests.lines import (
    INPUT, ask, change, circuit, circuit_of_numbers, delay, delta, distinct, forget, holds, join, last, pending, tick,
    ticks, total,
)

# A count of more than 1000 at node 1 has a third power past the limit.
POWERS = circuit(INPUT, join(1, 1), join(2, 1))


class HowManyTicks(unittest.TestCase):
    def test_none_at_the_beginning(self):
        self.assertEqual(ask(ticks(), ticks()), [[0], [0]])

    def test_one_more_behind_each(self):
        self.assertEqual(
            ask(change(1, 1, 1, 1), tick(), ticks(), change(1, 2, 2, 1), tick(), ticks(), ticks())[2::3], [[1], [2]]
        )
        self.assertEqual(ask(change(1, 1, 1, 1), tick(), ticks(), ticks())[2:], [[1], [1]])

    def test_one_in_which_nothing_has_come_in(self):
        self.assertEqual(
            ask(tick(), ticks(), tick(), ticks(), tick(), tick(), ticks()), [[0], [1], [0], [2], [0], [0], [4]]
        )

    def test_as_many_as_a_line_has_room_for(self):
        self.assertEqual(last(*[tick()] * 59, ticks()), [59])

    def test_not_behind_a_refused_tick(self):
        self.assertEqual(
            ask(
                POWERS, tick(), change(1, 0, 0, 1000), change(1, 0, 0, 1), tick(), ticks(), tick(), ticks(),
                change(1, 0, 0, -1), tick(), ticks(),
            )[4:],
            [[-9], [1], [-9], [1], [0], [3], [2]],
        )

    def test_not_behind_a_refused_first_tick(self):
        self.assertEqual(
            ask(POWERS, change(1, 0, 0, 1000), change(1, 0, 0, 1), tick(), ticks(), forget(), tick(), ticks())[3:],
            [[-9], [0], [1], [0], [1]],
        )


class BehindCircuit(unittest.TestCase):
    def test_it_is_0_again(self):
        self.assertEqual(
            ask(tick(), tick(), ticks(), circuit(INPUT), ticks(), tick(), ticks())[2:], [[2], [1], [0], [0], [1]]
        )

    def test_of_the_same_circuit(self):
        nodes = circuit(INPUT, distinct(1))
        self.assertEqual(ask(nodes, tick(), nodes, ticks())[3], [0])

    def test_not_behind_a_refused_one(self):
        for refused, answer in (
            (circuit_of_numbers([]), -1), (circuit_of_numbers([0] * 68), -1), (circuit((12, 0, 0, 0)), -2),
            (circuit(delay(2)), -3),
        ):
            with self.subTest(refused=refused):
                self.assertEqual(ask(tick(), tick(), refused, ticks())[2:], [[answer], [2]])


class OtherCalls(unittest.TestCase):
    def test_they_do_not_change_it(self):
        for call in (
            change(1, 1, 1, 1), delta(1), total(1), holds(1, 1, 1), pending(1), forget(), ticks(),
            change(0, 1, 1, 1), change(2, 1, 1, 1), change(1, 1, 1000, 1), change(1, 1, 1, 1001), delta(0), total(0),
            holds(0, 1, 1), holds(1, -1, 1), pending(0),
        ):
            with self.subTest(call=call):
                self.assertEqual(ask(call, ticks(), tick(), tick(), call, ticks())[1::4], [[0], [2]])
                self.assertEqual(ask(change(1, 5, 5, 1), tick(), change(1, 6, 6, 1), call, ticks())[4], [1])


if __name__ == "__main__":
    unittest.main()
