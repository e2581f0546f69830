"""Promise 3: what tick answers, and when it refuses."""

import unittest

from tests.lines import (
    INPUT, ask, change, circuit, counts, delay, delta, distinct, join, keep, last, minus, move, plus, rows, swap, tick,
    total,
)

BILLION = 1000000000


class HowManyRows(unittest.TestCase):
    def test_all_nodes_changes_together(self):
        nodes = circuit(INPUT, INPUT, plus(1, 2), swap(3), keep(4, 0, 1), counts(3))
        self.assertEqual(
            ask(nodes, change(1, 1, 2, 1), change(1, 3, 1, 1), change(2, 4, 1, 2), tick())[-1],
            [2 + 1 + 3 + 3 + 2 + 3],
        )

    def test_changes_are_counted_and_not_values(self):
        self.assertEqual(
            ask(change(1, 1, 1, 1), change(1, 2, 2, 1), tick(), change(1, 1, 1, 1), tick(), change(1, 1, 1, -2), tick()),
            [[0], [0], [4], [0], [1], [0], [2]],
        )

    def test_rows_are_counted_and_not_their_counts(self):
        self.assertEqual(last(change(1, 1, 1, 700), tick()), [2])

    def test_a_row_for_another_is_two(self):
        nodes = circuit(INPUT, counts(1))
        self.assertEqual(ask(nodes, change(1, 1, 1, 1), tick(), change(1, 1, 1, 1), tick())[2::2], [[2], [3]])

    def test_changes_that_come_to_nothing_inside(self):
        self.assertEqual(last(circuit(INPUT, minus(1, 1), distinct(2)), change(1, 1, 1, 1), tick()), [1])

    def test_nothing_has_come_in(self):
        self.assertEqual(ask(change(1, 1, 1, 1), tick(), tick(), tick()), [[0], [2], [0], [0]])

    def test_nothing_has_come_in_with_delays(self):
        nodes = circuit(INPUT, delay(1), delay(2), distinct(3))
        self.assertEqual(
            ask(nodes, tick(), change(1, 1, 1, 1), tick(), tick(), tick(), tick(), total(4))[1:],
            [[0], [0], [1], [1], [2], [0], rows((1, 1, 1))],
        )

    def test_a_loop_goes_on_by_itself(self):
        nodes = circuit(INPUT, delay(4), move(2, 1, 0), plus(1, 3))
        self.assertEqual(
            ask(nodes, change(1, 1, 1, 1), tick(), tick(), tick(), total(4), delta(4))[2:],
            [[2], [3], [3], rows((1, 1, 1), (2, 1, 1), (3, 1, 1)), rows((3, 1, 1))],
        )


def tens(k, swapped, firsts=range(10), count=1):
    """A row with 0 for each of the firsts comes in to the input k."""
    return [change(k, 0, a, count) if swapped else change(k, a, 0, count) for a in firsts]


# Node 3 has a row (a, b) for each (a, 0) of node 1 and each (0, b) of node 2; node 5 has those of node 4 beside.
MANY = circuit(INPUT, INPUT, join(1, 2), INPUT, plus(3, 4))
HUNDRED = [MANY] + tens(1, False) + tens(2, True)


class HowManyRowsAreTooMany(unittest.TestCase):
    def test_a_value_of_100_rows(self):
        found = ask(*HUNDRED, tick(), total(3), total(5), delta(5))
        self.assertEqual(found[-4], [10 + 10 + 100 + 100])
        self.assertEqual(found[-2], rows(*[(a, b, 1) for a in range(10) for b in range(10)]))
        self.assertEqual(found[-3], found[-2])
        self.assertEqual(found[-1], found[-2])

    def test_a_value_and_a_change_of_101_rows(self):
        self.assertEqual(last(*HUNDRED, change(4, 500, 500, 1), tick()), [-9])

    def test_a_value_of_101_rows_by_a_change_of_one(self):
        found = ask(*HUNDRED, tick(), change(4, 500, 500, 1), tick(), total(4), delta(4), delta(1), total(5))
        self.assertEqual(found[-5:-2], [[-9], [0], [0]])
        self.assertEqual(found[-2], rows(*[(a, 0, 1) for a in range(10)]))
        self.assertEqual(found[-1][0], 100)

    def test_a_change_of_100_rows_and_a_value_of_80(self):
        # Six tens of rows go and four come.
        found = ask(*HUNDRED, tick(), *tens(1, False, range(6), -1), *tens(1, False, range(10, 14)), tick(), total(5))
        self.assertEqual(found[-2], [10 + 0 + 100 + 0 + 100])
        self.assertEqual(found[-1][0], 80)

    def test_a_change_of_101_rows_and_a_value_of_81(self):
        found = ask(
            *HUNDRED, tick(), *tens(1, False, range(6), -1), *tens(1, False, range(10, 14)), change(4, 500, 500, 1),
            tick(), total(5), delta(5),
        )
        self.assertEqual(found[-3], [-9])
        self.assertEqual(found[-2], rows(*[(a, b, 1) for a in range(10) for b in range(10)]))
        self.assertEqual(found[-1], found[-2])

    def test_of_an_inner_node(self):
        # No row of node 3 comes through to node 5.
        nodes = circuit(INPUT, INPUT, join(1, 2), INPUT, keep(3, 0, 777))
        line = [nodes] + tens(1, False) + tens(2, True)
        self.assertEqual(last(*line, tick()), [120])
        self.assertEqual(last(*line, change(2, 0, 10, 1), tick()), [-9])

    def test_the_rows_of_all_nodes_together_may_be_more(self):
        self.assertEqual(last(*HUNDRED, tick()), [220])

    def test_of_several_nodes_none_too_large_alone(self):
        nodes = circuit(INPUT, INPUT, join(1, 2), join(1, 2), swap(3))
        self.assertEqual(last(nodes, *tens(1, False), *tens(2, True), tick()), [320])

    def test_all_is_as_it_was_and_what_has_come_in_is_still_there(self):
        found = ask(
            *HUNDRED, change(4, 500, 500, 3), tick(), total(1), delta(1), total(5), tick(),
            change(1, 9, 0, -1), tick(), total(4), total(1), total(5), delta(4),
        )[21:]
        self.assertEqual(found[:6], [[0], [-9], [0], [0], [0], [-9]])
        self.assertEqual(found[7], [9 + 10 + 90 + 1 + 91])
        self.assertEqual(found[8], rows((500, 500, 3)))
        self.assertEqual(found[9], rows(*[(a, 0, 1) for a in range(9)]))
        self.assertEqual(found[10], rows(*[(a, b, 1) for a in range(9) for b in range(10)], (500, 500, 3)))
        self.assertEqual(found[11], found[8])


# Node 3 has the third power of node 1's count of (0, 0); node 5 has node 4 beside.
POWERS = circuit(INPUT, join(1, 1), join(2, 1), INPUT, plus(3, 4))


class CountsTooFarFrom0(unittest.TestCase):
    def test_just_a_billion(self):
        self.assertEqual(
            ask(POWERS, change(1, 0, 0, 1000), tick(), total(2), total(3), total(5), delta(5))[2:],
            [[4], rows((0, 0, 1000000)), rows((0, 0, BILLION)), rows((0, 0, BILLION)), rows((0, 0, BILLION))],
        )

    def test_just_a_billion_below_0(self):
        self.assertEqual(
            ask(POWERS, change(1, 0, 0, -1000), tick(), total(2), total(3), total(5), delta(5))[2:],
            [[4], rows((0, 0, 1000000)), rows((0, 0, -BILLION)), rows((0, 0, -BILLION)), rows((0, 0, -BILLION))],
        )

    def test_one_more(self):
        for sign in (1, -1):
            with self.subTest(sign=sign):
                self.assertEqual(last(POWERS, change(1, 0, 0, 1000 * sign), change(4, 0, 0, sign), tick()), [-9])

    def test_one_more_by_a_change_of_1(self):
        for sign in (1, -1):
            line = [POWERS, change(1, 0, 0, 1000 * sign), tick(), change(4, 0, 0, sign), tick()]
            with self.subTest(sign=sign):
                self.assertEqual(
                    ask(*line, total(5), total(4), delta(3), delta(4))[4:],
                    [[-9], rows((0, 0, BILLION * sign)), [0], rows((0, 0, BILLION * sign)), [0]],
                )

    def test_a_change_of_just_a_billion(self):
        for sign in (1, -1):
            with self.subTest(sign=sign):
                self.assertEqual(
                    ask(POWERS, change(1, 0, 0, 1000 * sign), tick(), change(1, 0, 0, -1000 * sign), tick(), delta(3),
                        total(3))[4:],
                    [[4], rows((0, 0, -BILLION * sign)), [0]],
                )

    def test_a_change_of_one_more_where_both_values_are_within(self):
        # From 1000 to -1 the third power goes from 1000000000 to -1.
        for sign in (1, -1):
            with self.subTest(sign=sign):
                self.assertEqual(
                    ask(POWERS, change(1, 0, 0, 1000 * sign), tick(), change(1, 0, 0, -1000 * sign),
                        change(1, 0, 0, -sign), tick(), total(1), total(3), delta(3))[5:],
                    [[-9], rows((0, 0, 1000 * sign)), rows((0, 0, BILLION * sign)), rows((0, 0, BILLION * sign))],
                )

    def test_of_an_inner_node(self):
        # What is made of node 3 has small counts or no rows.
        nodes = circuit(INPUT, join(1, 1), join(2, 1), INPUT, distinct(3), keep(3, 0, 999))
        self.assertEqual(last(nodes, change(1, 0, 0, 1000), tick()), [4])
        for count in (1000, -1000):
            with self.subTest(count=count):
                self.assertEqual(last(nodes, change(1, 0, 0, count), change(1, 0, 0, count // 1000), tick()), [-9])

    def test_one_count_among_many(self):
        self.assertEqual(
            last(POWERS, change(1, 0, 0, 1000), change(4, 0, 0, 1), change(4, 0, 1, 1), change(4, 1, 0, 1), tick()),
            [-9],
        )

    def test_counts_that_are_far_only_on_the_way(self):
        # Node 4's row (0, 5) is met three times: with 1000000000, with as much again, and with as much taken away.
        nodes = circuit(INPUT, INPUT, join(1, 1), join(3, 2))
        came = [change(1, 0, b, 1000) for b in range(3)]
        came += [change(2, 0, 5, 1000), change(2, 1, 5, 1000), change(2, 2, 5, -1000)]
        self.assertEqual(ask(nodes, *came, tick(), total(4))[7:], [[3 + 3 + 3 + 1], rows((0, 5, BILLION))])

    def test_all_is_as_it_was_and_what_has_come_in_is_still_there(self):
        self.assertEqual(
            ask(
                POWERS, change(1, 0, 0, 1000), change(4, 0, 0, 1), tick(), tick(), total(1), total(4), delta(5),
                change(4, 0, 0, -2), tick(), total(4), total(5), delta(5),
            )[3:],
            [
                [-9], [-9], [0], [0], [0],
                [0], [5], rows((0, 0, -1)), rows((0, 0, BILLION - 1)), rows((0, 0, BILLION - 1)),
            ],
        )


class BehindARefusedTick(unittest.TestCase):
    def test_a_delay_does_not_go_on(self):
        nodes = circuit(INPUT, join(1, 1), join(2, 1), INPUT, plus(3, 4), delay(4))
        self.assertEqual(
            ask(
                nodes, change(4, 0, 0, 1), tick(), change(1, 0, 0, 1000), tick(), total(6), delta(6), delta(4),
                change(1, 0, 0, -1), tick(), total(6), delta(6), delta(4), tick(), delta(6),
            )[4:],
            [
                [-9], [0], [0], rows((0, 0, 1)),
                [0], [5], rows((0, 0, 1)), rows((0, 0, 1)), [0], [0], [0],
            ],
        )

    def test_a_circuit_that_can_never_tick_again(self):
        # Node 4 is twice what it was one tick before, and node 1 beside.
        nodes = circuit(INPUT, delay(4), plus(2, 2), plus(1, 3))
        ticks = [tick()] * 25
        found = ask(nodes, change(1, 0, 0, 1000), *ticks, total(4))[2:]
        # Behind n ticks it is 1000 times 2 to the n, less 1000; behind 19 that is 524287000, and then 1048575000.
        self.assertEqual(found[0], [2])
        self.assertEqual(found[1:19], [[3]] * 18)
        self.assertEqual(found[19:25], [[-9]] * 6)
        self.assertEqual(found[25], rows((0, 0, 524287000)))


if __name__ == "__main__":
    unittest.main()
