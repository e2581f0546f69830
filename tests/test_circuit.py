"""Promise 1: what circuit answers, and what it refuses."""

import unittest

from tests.lines import (
    INPUT, ask, circuit, circuit_of_numbers, counts, delay, distinct, greatest, join, keep, last, least, minus, move,
    plus, swap, total,
)


def places_of_nodes(kind):
    return {0: 0, 1: 2, 2: 2, 6: 2}.get(kind, 1)


def node_of(kind):
    """A node of this sort, made of node 1 where it is made of any."""
    return [kind] + [1] * places_of_nodes(kind) + [0] * (3 - places_of_nodes(kind))


class HowManyNodes(unittest.TestCase):
    def test_each_number_of_nodes_that_may_be(self):
        for how_many in range(1, 17):
            with self.subTest(how_many=how_many):
                self.assertEqual(
                    ask(circuit(*[INPUT] * how_many), total(how_many), total(how_many + 1)), [[how_many], [0], [-1]]
                )

    def test_a_node_of_each_sort(self):
        nodes = (
            INPUT, plus(1, 1), minus(1, 2), swap(3), keep(4, 5, 999), move(5, 999, 999), join(6, 1), distinct(7),
            counts(8), least(9), greatest(10), delay(11),
        )
        self.assertEqual(last(circuit(*nodes)), [12])


class NotFourNumbersForEachOf1To16Nodes(unittest.TestCase):
    def test_every_length(self):
        for length in range(0, 81):
            expected = length // 4 if length % 4 == 0 and 4 <= length <= 64 else -1
            with self.subTest(length=length):
                self.assertEqual(last(circuit_of_numbers([0] * length)), [expected])

    def test_is_told_first(self):
        self.assertEqual(last(circuit_of_numbers([-1] * 5)), [-1])
        self.assertEqual(last(circuit_of_numbers([7, 9, 0])), [-1])
        self.assertEqual(last(circuit_of_numbers([12] * 68)), [-1])
        self.assertEqual(last(circuit_of_numbers([7, 17, 0, 0] * 17)), [-1])


class NoNodeByTheTable(unittest.TestCase):
    def test_a_number_below_0_in_each_place(self):
        for kind in range(12):
            for place in range(4):
                node = node_of(kind)
                node[place] = -1
                with self.subTest(kind=kind, place=place):
                    self.assertEqual(last(circuit(INPUT, node)), [-2])

    def test_the_sorts_end_at_11(self):
        self.assertEqual(last(circuit(INPUT, (11, 1, 0, 0))), [2])
        self.assertEqual(last(circuit(INPUT, (12, 1, 0, 0))), [-2])
        self.assertEqual(last(circuit(INPUT, (12, 0, 0, 0))), [-2])

    def test_a_number_where_the_table_has_0(self):
        for kind in range(12):
            if kind in (4, 5):
                continue
            for place in range(1 + places_of_nodes(kind), 4):
                node = node_of(kind)
                with self.subTest(kind=kind, place=place):
                    self.assertEqual(last(circuit(INPUT, node)), [2])
                    node[place] = 1
                    self.assertEqual(last(circuit(INPUT, node)), [-2])

    def test_the_tests_of_keep(self):
        for t in range(6):
            with self.subTest(t=t):
                self.assertEqual(last(circuit(INPUT, keep(1, t, 0))), [2])
        self.assertEqual(last(circuit(INPUT, keep(1, 6, 0))), [-2])

    def test_the_number_of_keep(self):
        for t in range(6):
            with self.subTest(t=t):
                self.assertEqual(last(circuit(INPUT, keep(1, t, 999))), [2])
                self.assertEqual(last(circuit(INPUT, keep(1, t, 1000))), [-2])

    def test_the_numbers_of_move(self):
        self.assertEqual(last(circuit(INPUT, move(1, 0, 0))), [2])
        self.assertEqual(last(circuit(INPUT, move(1, 999, 999))), [2])
        self.assertEqual(last(circuit(INPUT, move(1, 1000, 0))), [-2])
        self.assertEqual(last(circuit(INPUT, move(1, 0, 1000))), [-2])

    def test_is_told_before_a_node_that_is_not_told_ahead(self):
        self.assertEqual(last(circuit(distinct(9), (0, 0, 0, 1))), [-2])
        self.assertEqual(last(circuit(INPUT, keep(2, 6, 0))), [-2])
        self.assertEqual(last(circuit(INPUT, plus(5, -1))), [-2])
        self.assertEqual(last(circuit(delay(0), INPUT, (12, 0, 0, 0))), [-2])


class MadeOfOneThatIsNotToldAhead(unittest.TestCase):
    def test_of_each_sort_and_place(self):
        # Of four nodes the third: 1 and 2 are told ahead of it.
        for kind in range(1, 11):
            for place in range(1, 1 + places_of_nodes(kind)):
                for part, expected in ((0, -3), (1, 4), (2, 4), (3, -3), (4, -3), (5, -3)):
                    node = node_of(kind)
                    node[place] = part
                    with self.subTest(kind=kind, place=place, part=part):
                        self.assertEqual(last(circuit(INPUT, INPUT, node, INPUT)), [expected])

    def test_the_first_node_can_be_made_of_none(self):
        for kind in range(1, 11):
            with self.subTest(kind=kind):
                self.assertEqual(last(circuit(node_of(kind))), [-3])

    def test_a_delay_may_be_of_any_node_in_the_circuit(self):
        for part, expected in ((0, -3), (1, 3), (2, 3), (3, 3), (4, -3)):
            with self.subTest(part=part):
                self.assertEqual(last(circuit(INPUT, delay(part), INPUT)), [expected])

    def test_a_delay_alone_is_of_itself(self):
        self.assertEqual(last(circuit(delay(1))), [1])
        self.assertEqual(last(circuit(delay(2))), [-3])

    def test_a_delay_among_sixteen(self):
        self.assertEqual(last(circuit(delay(16), *[INPUT] * 15)), [16])
        self.assertEqual(last(circuit(delay(17), *[INPUT] * 15)), [-3])

    def test_numbers_that_are_no_nodes_are_not_taken_for_nodes(self):
        # 5 and 999 here are a test and a number, though no such nodes are there.
        self.assertEqual(last(circuit(INPUT, keep(1, 5, 999), move(1, 998, 999))), [3])


if __name__ == "__main__":
    unittest.main()
