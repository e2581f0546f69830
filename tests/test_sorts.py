"""Each of the twelve sorts of node, by delta and by total, over several ticks."""

import unittest

from tests.lines import (
    INPUT, ask, change, circuit, counts, delay, delta, distinct, greatest, join, keep, least, minus, move, plus, rows,
    swap, tick, total,
)


class SortsCase(unittest.TestCase):
    def check(self, nodes, k, *ticks):
        """Each tick: what comes in, as (input, a, b, count); then node k's change and its value, as rows."""
        calls = [circuit(*nodes)]
        expected = []
        for came, changed, value in ticks:
            calls += [change(*numbers) for numbers in came] + [tick(), delta(k), total(k)]
            expected += [rows(*changed), rows(*value)]
        found = []
        for call, answer in zip(calls, ask(*calls)):
            self.assertGreaterEqual(answer[0], 0)
            if call[0] in (3, 4):
                found.append(answer)
        self.assertEqual(found, expected)


class Input(SortsCase):
    def test_over_several_ticks(self):
        self.check(
            (INPUT, INPUT), 1,
            ([(1, 1, 2, 3), (1, 0, 0, -1), (2, 9, 9, 9)], [(0, 0, -1), (1, 2, 3)], [(0, 0, -1), (1, 2, 3)]),
            ([(1, 1, 2, -4), (1, 0, 0, 1)], [(0, 0, 1), (1, 2, -4)], [(1, 2, -1)]),
            ([], [], [(1, 2, -1)]),
            ([(1, 1, 2, 1)], [(1, 2, 1)], []),
        )

    def test_the_edges_of_a_row(self):
        corners = [(0, 0, 1), (0, 999, 1), (999, 0, 1), (999, 999, 1)]
        self.check((INPUT,), 1, ([(1,) + row for row in corners], corners, corners))


class Plus(SortsCase):
    def test_over_several_ticks(self):
        self.check(
            (INPUT, INPUT, plus(1, 2)), 3,
            ([(1, 1, 1, 2), (2, 1, 1, 3), (2, 5, 5, -1)], [(1, 1, 5), (5, 5, -1)], [(1, 1, 5), (5, 5, -1)]),
            ([(1, 1, 1, -5), (1, 5, 5, 2)], [(1, 1, -5), (5, 5, 2)], [(5, 5, 1)]),
            ([(1, 7, 7, 4), (2, 7, 7, -4)], [], [(5, 5, 1)]),
        )

    def test_of_a_node_with_itself(self):
        self.check(
            (INPUT, plus(1, 1)), 2,
            ([(1, 1, 1, 2)], [(1, 1, 4)], [(1, 1, 4)]),
            ([(1, 1, 1, -3)], [(1, 1, -6)], [(1, 1, -2)]),
        )


class Minus(SortsCase):
    def test_over_several_ticks(self):
        self.check(
            (INPUT, INPUT, minus(1, 2)), 3,
            ([(1, 1, 1, 2), (2, 1, 1, 3), (2, 5, 5, -1)], [(1, 1, -1), (5, 5, 1)], [(1, 1, -1), (5, 5, 1)]),
            ([(1, 1, 1, 1), (2, 5, 5, 2)], [(1, 1, 1), (5, 5, -2)], [(5, 5, -1)]),
            ([(1, 7, 7, 4), (2, 7, 7, 4)], [], [(5, 5, -1)]),
        )

    def test_the_second_is_taken_from_the_first(self):
        self.check((INPUT, INPUT, minus(2, 1)), 3, ([(1, 1, 1, 2)], [(1, 1, -2)], [(1, 1, -2)]))

    def test_of_a_node_with_itself(self):
        self.check((INPUT, minus(1, 1)), 2, ([(1, 1, 1, 2)], [], []))


class Swap(SortsCase):
    def test_over_several_ticks(self):
        self.check(
            (INPUT, swap(1)), 2,
            ([(1, 1, 9, 2), (1, 2, 3, -1), (1, 4, 4, 1)], [(3, 2, -1), (4, 4, 1), (9, 1, 2)],
             [(3, 2, -1), (4, 4, 1), (9, 1, 2)]),
            ([(1, 1, 9, -2), (1, 9, 1, 1)], [(1, 9, 1), (9, 1, -2)], [(1, 9, 1), (3, 2, -1), (4, 4, 1)]),
        )


class Keep(SortsCase):
    CAME = [(1, 3, 4, 2), (1, 4, 3, -1), (1, 4, 4, 5), (1, 4, 5, 1), (1, 5, 4, 1), (1, 2, 6, 1), (1, 6, 2, 1)]

    def check_test(self, t, n, kept):
        back = [(1, a, b, -count) for k, a, b, count in self.CAME]
        self.check(
            (INPUT, keep(1, t, n)), 2,
            (self.CAME, kept, kept),
            (back, [(a, b, -count) for a, b, count in kept], []),
        )

    def test_a_is_n(self):
        self.check_test(0, 4, [(4, 3, -1), (4, 4, 5), (4, 5, 1)])

    def test_b_is_n(self):
        self.check_test(1, 4, [(3, 4, 2), (4, 4, 5), (5, 4, 1)])

    def test_a_is_b(self):
        for n in (0, 4, 999):
            self.check_test(2, n, [(4, 4, 5)])

    def test_a_is_below_b(self):
        for n in (0, 4, 999):
            self.check_test(3, n, [(2, 6, 1), (3, 4, 2), (4, 5, 1)])

    def test_a_is_at_most_n(self):
        self.check_test(4, 4, [(2, 6, 1), (3, 4, 2), (4, 3, -1), (4, 4, 5), (4, 5, 1)])

    def test_b_is_at_most_n(self):
        self.check_test(5, 4, [(3, 4, 2), (4, 3, -1), (4, 4, 5), (5, 4, 1), (6, 2, 1)])

    def test_at_0_and_999(self):
        came = [(1, 0, 999, 1), (1, 999, 0, 1), (1, 999, 999, 1), (1, 0, 0, 1)]
        all_rows = [(0, 0, 1), (0, 999, 1), (999, 0, 1), (999, 999, 1)]
        for t, n, kept in (
            (0, 0, [(0, 0, 1), (0, 999, 1)]), (0, 999, [(999, 0, 1), (999, 999, 1)]),
            (1, 0, [(0, 0, 1), (999, 0, 1)]), (1, 999, [(0, 999, 1), (999, 999, 1)]),
            (2, 0, [(0, 0, 1), (999, 999, 1)]), (3, 0, [(0, 999, 1)]),
            (4, 0, [(0, 0, 1), (0, 999, 1)]), (4, 999, all_rows),
            (5, 0, [(0, 0, 1), (999, 0, 1)]), (5, 999, all_rows),
        ):
            with self.subTest(t=t, n=n):
                self.check((INPUT, keep(1, t, n)), 2, (came, kept, kept))


class Move(SortsCase):
    def test_over_several_ticks(self):
        self.check(
            (INPUT, move(1, 10, 1)), 2,
            ([(1, 1, 9, 2), (1, 2, 3, -1)], [(11, 10, 2), (12, 4, -1)], [(11, 10, 2), (12, 4, -1)]),
            ([(1, 1, 9, -2), (1, 2, 3, -1)], [(11, 10, -2), (12, 4, -1)], [(12, 4, -2)]),
        )

    def test_past_999(self):
        moved = [(8, 998, 1), (9, 999, 2), (10, 0, 3), (999, 5, 4)]
        self.check(
            (INPUT, move(1, 10, 999)), 2,
            ([(1, 998, 999, 1), (1, 999, 0, 2), (1, 0, 1, 3), (1, 989, 6, 4)], moved, moved),
        )

    def test_to_just_999_and_just_past_it(self):
        self.check(
            (INPUT, move(1, 1, 2)), 2,
            ([(1, 998, 997, 1), (1, 999, 998, 1)], [(0, 0, 1), (999, 999, 1)], [(0, 0, 1), (999, 999, 1)]),
        )

    def test_by_nothing(self):
        self.check((INPUT, move(1, 0, 0)), 2, ([(1, 999, 0, 3)], [(999, 0, 3)], [(999, 0, 3)]))


class Join(SortsCase):
    NODES = (INPUT, INPUT, join(1, 2))

    def test_over_several_ticks(self):
        self.check(
            self.NODES, 3,
            ([(1, 1, 5, 2)], [], []),
            ([(2, 5, 7, 3), (2, 6, 7, 1)], [(1, 7, 6)], [(1, 7, 6)]),
            ([(1, 1, 6, -1), (1, 2, 5, 1)], [(1, 7, -1), (2, 7, 3)], [(1, 7, 5), (2, 7, 3)]),
            ([(2, 5, 7, -3)], [(1, 7, -6), (2, 7, -3)], [(1, 7, -1)]),
            ([(1, 1, 6, 1)], [(1, 7, 1)], []),
        )

    def test_changes_on_both_sides_in_one_tick(self):
        self.check(
            self.NODES, 3,
            ([(1, 1, 5, 2), (2, 5, 7, 3)], [(1, 7, 6)], [(1, 7, 6)]),
            ([(1, 1, 5, 4), (2, 5, 7, 5)], [(1, 7, 42)], [(1, 7, 48)]),
            ([(1, 1, 5, -6), (2, 5, 7, -8)], [(1, 7, -48)], []),
            ([(1, 1, 5, 1), (2, 5, 7, -1)], [(1, 7, -1)], [(1, 7, -1)]),
        )

    def test_counts_below_0_on_both_sides(self):
        self.check(self.NODES, 3, ([(1, 1, 5, -2), (2, 5, 7, -3)], [(1, 7, 6)], [(1, 7, 6)]))

    def test_counts_of_the_same_row_are_added(self):
        self.check(
            self.NODES, 3,
            ([(1, 1, 5, 2), (1, 1, 6, 3), (2, 5, 7, 1), (2, 6, 7, 10)], [(1, 7, 32)], [(1, 7, 32)]),
            ([(2, 6, 7, -10), (2, 6, 8, 1)], [(1, 7, -30), (1, 8, 3)], [(1, 7, 2), (1, 8, 3)]),
        )

    def test_counts_of_the_same_row_may_come_to_0(self):
        self.check(
            self.NODES, 3,
            ([(1, 1, 5, 2), (1, 1, 6, 1), (2, 5, 7, 1), (2, 6, 7, -2)], [], []),
            ([(2, 6, 7, 1)], [(1, 7, 1)], [(1, 7, 1)]),
        )

    def test_the_b_of_x_meets_the_a_of_y(self):
        self.check(
            (INPUT, INPUT, join(2, 1)), 3,
            ([(1, 1, 5, 1), (2, 5, 7, 1), (2, 9, 1, 1)], [(9, 5, 1)], [(9, 5, 1)]),
        )

    def test_of_a_node_with_itself(self):
        self.check(
            (INPUT, join(1, 1)), 2,
            ([(1, 1, 2, 1), (1, 2, 3, 2)], [(1, 3, 2)], [(1, 3, 2)]),
            ([(1, 3, 4, 1), (1, 2, 3, 1)], [(1, 3, 1), (2, 4, 3)], [(1, 3, 3), (2, 4, 3)]),
            ([(1, 7, 7, 3)], [(7, 7, 9)], [(1, 3, 3), (2, 4, 3), (7, 7, 9)]),
            ([(1, 7, 7, -1)], [(7, 7, -5)], [(1, 3, 3), (2, 4, 3), (7, 7, 4)]),
            ([(1, 2, 3, -3)], [(1, 3, -3), (2, 4, -3)], [(7, 7, 4)]),
        )

    def test_of_a_node_and_one_made_of_it(self):
        self.check(
            (INPUT, swap(1), join(1, 2)), 3,
            ([(1, 1, 5, 2)], [(1, 1, 4)], [(1, 1, 4)]),
            ([(1, 2, 5, 1)], [(1, 2, 2), (2, 1, 2), (2, 2, 1)], [(1, 1, 4), (1, 2, 2), (2, 1, 2), (2, 2, 1)]),
            ([(1, 1, 5, -2)], [(1, 1, -4), (1, 2, -2), (2, 1, -2)], [(2, 2, 1)]),
        )


class Distinct(SortsCase):
    def test_over_several_ticks(self):
        self.check(
            (INPUT, distinct(1)), 2,
            ([(1, 1, 1, 5), (1, 1, 2, 1), (1, 1, 3, -2)], [(1, 1, 1), (1, 2, 1)], [(1, 1, 1), (1, 2, 1)]),
            ([(1, 1, 1, -4), (1, 1, 2, 1), (1, 1, 3, 2)], [], [(1, 1, 1), (1, 2, 1)]),
            ([(1, 1, 1, -1), (1, 1, 2, -3), (1, 1, 3, 1)], [(1, 1, -1), (1, 2, -1), (1, 3, 1)], [(1, 3, 1)]),
            ([(1, 1, 1, 1), (1, 1, 2, 1)], [(1, 1, 1)], [(1, 1, 1), (1, 3, 1)]),
        )


class Counts(SortsCase):
    def test_over_several_ticks(self):
        self.check(
            (INPUT, counts(1)), 2,
            ([(1, 1, 5, 2), (1, 1, 6, 3), (1, 2, 2, 1)], [(1, 5, 1), (2, 1, 1)], [(1, 5, 1), (2, 1, 1)]),
            ([(1, 1, 5, -4)], [(1, 1, 1), (1, 5, -1)], [(1, 1, 1), (2, 1, 1)]),
            ([(1, 1, 6, -1)], [(1, 1, -1)], [(2, 1, 1)]),
            ([(1, 1, 7, -2), (1, 2, 3, 1)], [(2, 1, -1), (2, 2, 1)], [(2, 2, 1)]),
            ([(1, 1, 8, 9)], [(1, 7, 1)], [(1, 7, 1), (2, 2, 1)]),
        )

    def test_rows_change_and_the_sum_does_not(self):
        self.check(
            (INPUT, counts(1)), 2,
            ([(1, 1, 5, 2)], [(1, 2, 1)], [(1, 2, 1)]),
            ([(1, 1, 5, -2), (1, 1, 6, 2)], [], [(1, 2, 1)]),
        )

    def test_above_999(self):
        self.check(
            (INPUT, counts(1)), 2,
            ([(1, 1, 5, 998)], [(1, 998, 1)], [(1, 998, 1)]),
            ([(1, 1, 6, 1)], [(1, 998, -1), (1, 999, 1)], [(1, 999, 1)]),
            ([(1, 1, 7, 1)], [], [(1, 999, 1)]),
            ([(1, 1, 7, 1000), (1, 1, 8, 1000)], [], [(1, 999, 1)]),
            ([(1, 1, 7, -1000), (1, 1, 8, -1000)], [], [(1, 999, 1)]),
            ([(1, 1, 5, -2)], [(1, 998, 1), (1, 999, -1)], [(1, 998, 1)]),
        )


class Least(SortsCase):
    def test_over_several_ticks(self):
        self.check(
            (INPUT, least(1)), 2,
            ([(1, 1, 5, 2), (1, 1, 9, 1), (1, 2, 2, -1)], [(1, 5, 1)], [(1, 5, 1)]),
            ([(1, 1, 3, 1), (1, 2, 2, 2)], [(1, 3, 1), (1, 5, -1), (2, 2, 1)], [(1, 3, 1), (2, 2, 1)]),
            ([(1, 1, 7, 1)], [], [(1, 3, 1), (2, 2, 1)]),
        )

    def test_the_least_row_is_taken_back(self):
        self.check(
            (INPUT, least(1)), 2,
            ([(1, 1, 0, 2), (1, 1, 5, 1), (1, 1, 999, 1)], [(1, 0, 1)], [(1, 0, 1)]),
            ([(1, 1, 0, -1)], [], [(1, 0, 1)]),
            ([(1, 1, 0, -1)], [(1, 0, -1), (1, 5, 1)], [(1, 5, 1)]),
            ([(1, 1, 5, -2)], [(1, 5, -1), (1, 999, 1)], [(1, 999, 1)]),
            ([(1, 1, 999, -1)], [(1, 999, -1)], []),
        )

    def test_rows_with_a_count_below_0_do_not_count(self):
        self.check(
            (INPUT, least(1)), 2,
            ([(1, 1, 2, -1), (1, 1, 5, 3)], [(1, 5, 1)], [(1, 5, 1)]),
            ([(1, 1, 2, 2)], [(1, 2, 1), (1, 5, -1)], [(1, 2, 1)]),
        )


class Greatest(SortsCase):
    def test_over_several_ticks(self):
        self.check(
            (INPUT, greatest(1)), 2,
            ([(1, 1, 5, 2), (1, 1, 2, 1), (1, 2, 2, -1)], [(1, 5, 1)], [(1, 5, 1)]),
            ([(1, 1, 9, 1), (1, 2, 2, 2)], [(1, 5, -1), (1, 9, 1), (2, 2, 1)], [(1, 9, 1), (2, 2, 1)]),
            ([(1, 1, 7, 1)], [], [(1, 9, 1), (2, 2, 1)]),
        )

    def test_the_greatest_row_is_taken_back(self):
        self.check(
            (INPUT, greatest(1)), 2,
            ([(1, 1, 999, 2), (1, 1, 5, 1), (1, 1, 0, 1)], [(1, 999, 1)], [(1, 999, 1)]),
            ([(1, 1, 999, -1)], [], [(1, 999, 1)]),
            ([(1, 1, 999, -1)], [(1, 5, 1), (1, 999, -1)], [(1, 5, 1)]),
            ([(1, 1, 5, -2)], [(1, 0, 1), (1, 5, -1)], [(1, 0, 1)]),
            ([(1, 1, 0, -1)], [(1, 0, -1)], []),
        )

    def test_rows_with_a_count_below_0_do_not_count(self):
        self.check(
            (INPUT, greatest(1)), 2,
            ([(1, 1, 8, -1), (1, 1, 5, 3)], [(1, 5, 1)], [(1, 5, 1)]),
            ([(1, 1, 8, 2)], [(1, 5, -1), (1, 8, 1)], [(1, 8, 1)]),
        )


class Delay(SortsCase):
    TICKS = (
        ([(1, 1, 1, 2)], [], []),
        ([(1, 1, 1, 1), (1, 2, 2, -1)], [(1, 1, 2)], [(1, 1, 2)]),
        ([(1, 1, 1, -3)], [(1, 1, 1), (2, 2, -1)], [(1, 1, 3), (2, 2, -1)]),
        ([], [(1, 1, -3)], [(2, 2, -1)]),
        ([], [], [(2, 2, -1)]),
    )

    def test_of_a_node_ahead(self):
        self.check((INPUT, delay(1)), 2, *self.TICKS)

    def test_of_a_node_behind(self):
        ticks = [
            (came, [(a, b, 2 * count) for a, b, count in changed], [(a, b, 2 * count) for a, b, count in value])
            for came, changed, value in self.TICKS
        ]
        self.check((INPUT, delay(3), plus(1, 1)), 2, *ticks)

    def test_of_an_input_behind(self):
        ticks = [([(2,) + row[1:] for row in came], changed, value) for came, changed, value in self.TICKS]
        self.check((delay(2), INPUT), 1, *ticks)

    def test_of_itself(self):
        self.check((INPUT, delay(2)), 2, ([(1, 1, 1, 1)], [], []), ([(1, 2, 2, 1)], [], []), ([], [], []))

    def test_of_a_delay_ahead_and_behind(self):
        two_ticks_later = (([(1, 1, 1, 2)], [], []), ([], [], []), ([], [(1, 1, 2)], [(1, 1, 2)]))
        self.check((INPUT, delay(1), delay(2)), 3, *two_ticks_later)
        self.check((INPUT, delay(3), delay(1)), 2, *two_ticks_later)

    def test_of_one_another(self):
        self.check((INPUT, delay(3), delay(2)), 3, ([(1, 1, 1, 1)], [], []), ([], [], []))

    def test_a_loop_that_adds_up(self):
        # Node 3 is node 1 and what node 3 was one tick before.
        self.check(
            (INPUT, delay(3), plus(1, 2)), 3,
            ([(1, 1, 1, 1)], [(1, 1, 1)], [(1, 1, 1)]),
            ([], [(1, 1, 1)], [(1, 1, 2)]),
            ([(1, 1, 1, -1)], [], [(1, 1, 2)]),
            ([(1, 1, 1, -2)], [(1, 1, -2)], []),
            ([], [(1, 1, -2)], [(1, 1, -2)]),
        )

    def test_a_loop_that_finds_all_ways(self):
        # Node 5 has (a, c) if steps of node 1 lead from a to c.
        self.check(
            (INPUT, delay(5), join(2, 1), plus(1, 3), distinct(4)), 5,
            ([(1, 1, 2, 1), (1, 2, 3, 1), (1, 3, 4, 1)], [(1, 2, 1), (2, 3, 1), (3, 4, 1)],
             [(1, 2, 1), (2, 3, 1), (3, 4, 1)]),
            ([], [(1, 3, 1), (2, 4, 1)], [(1, 2, 1), (1, 3, 1), (2, 3, 1), (2, 4, 1), (3, 4, 1)]),
            ([], [(1, 4, 1)], [(1, 2, 1), (1, 3, 1), (1, 4, 1), (2, 3, 1), (2, 4, 1), (3, 4, 1)]),
            ([], [], [(1, 2, 1), (1, 3, 1), (1, 4, 1), (2, 3, 1), (2, 4, 1), (3, 4, 1)]),
            ([(1, 2, 3, -1)], [(1, 3, -1), (2, 3, -1)],
             [(1, 2, 1), (1, 4, 1), (2, 4, 1), (3, 4, 1)]),
            ([], [(1, 4, -1), (2, 4, -1)], [(1, 2, 1), (3, 4, 1)]),
            ([], [], [(1, 2, 1), (3, 4, 1)]),
        )


if __name__ == "__main__":
    unittest.main()
