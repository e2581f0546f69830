"""The circuit at a line's beginning, how answers stand in the list, and what holds for every line."""

import contextlib
import io
import unittest

from changenet.nodes import answers
from tests.lines import (
    INPUT, LARGEST, LEAST, ask, change, circuit, circuit_of_numbers, delay, delta, distinct, forget, holds, join, last,
    pending, plus, rows, tick, ticks, total,
)


class TheBeginning(unittest.TestCase):
    def test_all_values_and_changes_have_no_rows(self):
        self.assertEqual(ask(total(1), total(2), delta(1), delta(2)), [[0], [0], [0], [0]])

    def test_there_are_just_two_nodes(self):
        self.assertEqual(ask(total(0), total(3), delta(0), delta(3)), [[-1], [-1], [-1], [-1]])
        self.assertEqual(ask(holds(0, 1, 1), holds(3, 1, 1), pending(0), pending(3)), [[-1], [-1], [-1], [-1]])

    def test_nothing_has_come_in(self):
        self.assertEqual(ask(tick(), total(1), total(2)), [[0], [0], [0]])
        self.assertEqual(ask(pending(1), pending(2), forget()), [[0], [0], [0]])

    def test_there_was_no_tick(self):
        self.assertEqual(ask(ticks(), holds(1, 0, 0), holds(2, 0, 0)), [[0], [1, 0], [1, 0]])

    def test_node_1_is_an_input_and_node_2_distinct_of_it(self):
        self.assertEqual(
            ask(change(1, 4, 5, 3), change(1, 4, 6, -2), change(2, 4, 5, 1), tick(), total(1), total(2), delta(2)),
            [[0], [0], [-4], [3], rows((4, 5, 3), (4, 6, -2)), rows((4, 5, 1)), rows((4, 5, 1))],
        )


class CircuitInTheMiddle(unittest.TestCase):
    def test_values_and_changes_are_gone(self):
        self.assertEqual(
            ask(
                change(1, 1, 1, 1), tick(), total(1),
                circuit(INPUT, distinct(1)), total(1), total(2), delta(1), delta(2),
            )[2:],
            [rows((1, 1, 1)), [2], [0], [0], [0], [0]],
        )

    def test_what_had_come_in_is_gone(self):
        self.assertEqual(ask(change(1, 1, 1, 1), circuit(INPUT), tick(), total(1))[1:], [[1], [0], [0]])
        self.assertEqual(ask(change(1, 1, 1, 1), circuit(INPUT), pending(1), forget())[1:], [[1], [0], [0]])

    def test_the_ticks_are_gone(self):
        self.assertEqual(ask(tick(), circuit(INPUT), ticks(), tick(), ticks()), [[0], [1], [0], [0], [1]])

    def test_a_delay_remembers_nothing_of_the_circuit_before(self):
        nodes = circuit(INPUT, delay(1))
        self.assertEqual(
            ask(nodes, change(1, 1, 1, 1), tick(), nodes, tick(), total(2), delta(2))[3:], [[2], [0], [0], [0]]
        )

    def test_the_nodes_are_the_new_ones(self):
        self.assertEqual(
            ask(circuit(INPUT, INPUT, plus(1, 2)), change(2, 7, 8, 1), tick(), total(3), total(4)),
            [[3], [0], [2], rows((7, 8, 1)), [-1]],
        )

    def test_a_refused_circuit_leaves_all_as_it_was(self):
        for refused, answer in (
            (circuit_of_numbers([]), [-1]),
            (circuit((12, 0, 0, 0)), [-2]),
            (circuit(INPUT, distinct(2)), [-3]),
        ):
            with self.subTest(refused=refused):
                self.assertEqual(
                    ask(
                        change(1, 1, 1, 1), tick(), change(1, 2, 2, 1),
                        refused, total(1), delta(2), tick(), total(2), total(3),
                    )[3:],
                    [answer, rows((1, 1, 1)), rows((1, 1, 1)), [2], rows((1, 1, 1), (2, 2, 1)), [-1]],
                )


class TheList(unittest.TestCase):
    # All nine calls, and refusals among them.
    LINE = [0, 8, 0, 0, 0, 0, 7, 1, 0, 0, 1, 1, 5, 6, -2, 1, 1, 5, 5, 7, 2, 4, 1, 3, 2, 4, 9]
    LINE += [5, 1, 5, 6, 5, 2, 5, 6, 5, 1, 5, 1000, 1, 1, 8, 8, -4, 6, 1, 6, 2, 6, 3, 7, 7, 8]
    GIVEN_BACK = [1, 2, 1, 0, 1, 0, 1, 3, 7, 2, 5, 5, 7, 5, 6, -2, 4, 1, 5, 5, 1, 1, -1]
    GIVEN_BACK += [2, 1, -2, 2, 1, 0, 1, -2, 1, 0, 4, 1, 8, 8, -4, 1, 0, 1, -1, 1, 1, 1, 0, 1, 1]

    def test_how_many_numbers_stand_before_each_answer(self):
        self.assertEqual(answers(list(self.LINE)), self.GIVEN_BACK)

    def test_the_list_handed_in_is_as_it_was(self):
        line = list(self.LINE)
        answers(line)
        self.assertEqual(line, self.LINE)

    def test_the_same_list_twice_gives_the_same_answers(self):
        line = list(self.LINE)
        self.assertEqual(answers(line), self.GIVEN_BACK)
        self.assertEqual(answers(line), self.GIVEN_BACK)

    def test_nothing_is_kept_from_one_line_to_the_next(self):
        ask(circuit(INPUT), change(1, 1, 1, 1), tick(), change(1, 2, 2, 2))
        self.assertEqual(ask(delta(1), total(2), tick(), total(1)), [[0], [0], [0], [0]])
        ask(change(1, 1, 1, 1), tick(), change(1, 2, 2, 2))
        self.assertEqual(
            ask(ticks(), pending(1), holds(1, 1, 1), forget(), tick(), total(1)), [[0], [0], [1, 0], [0], [0], [0]]
        )

    def test_the_list_given_back_is_a_new_one(self):
        line = list(self.LINE)
        answers(line).clear()
        self.assertEqual(answers(line), self.GIVEN_BACK)

    def test_nothing_is_printed(self):
        printed = io.StringIO()
        with contextlib.redirect_stdout(printed), contextlib.redirect_stderr(printed):
            answers(list(self.LINE))
        self.assertEqual(printed.getvalue(), "")

    def test_a_single_call(self):
        self.assertEqual(answers([2]), [1, 0])
        self.assertEqual(answers([0, 0]), [1, -1])
        self.assertEqual(answers([5, 2, 999, 0]), [2, 1, 0])
        self.assertEqual(answers([6, 1]), [1, 0])
        self.assertEqual(answers([7]), [1, 0])
        self.assertEqual(answers([8]), [1, 0])

    def test_sixty_of_the_longest_calls(self):
        self.assertEqual(answers(([0, 80] + [0] * 80) * 60), [1, -1] * 60)

    def test_sixty_ticks(self):
        self.assertEqual(answers([2] * 60), [1, 0] * 60)


class TheLargestAndLeastNumbers(unittest.TestCase):
    def test_in_each_place_of_a_node(self):
        node = plus(1, 1)
        for place in range(4):
            for number in (LEAST, LARGEST):
                numbers = list(node)
                numbers[place] = number
                expected = -3 if number == LARGEST and place in (1, 2) else -2
                with self.subTest(place=place, number=number):
                    self.assertEqual(last(circuit(INPUT, numbers)), [expected])

    def test_in_each_place_of_each_sort_of_node(self):
        nodes_told_at = {0: (), 1: (1, 2), 2: (1, 2), 6: (1, 2)}
        for kind in range(12):
            for place in range(1, 4):
                for number in (LEAST, LARGEST):
                    numbers = [kind, 1, 1 if kind in (1, 2, 6) else 0, 0] if kind else [0, 0, 0, 0]
                    numbers[place] = number
                    known = number == LARGEST and place in nodes_told_at.get(kind, (1,))
                    with self.subTest(kind=kind, place=place, number=number):
                        self.assertEqual(last(circuit(INPUT, numbers)), [-3 if known else -2])

    def test_in_lists_that_are_not_four_numbers_for_each_node(self):
        for number in (LEAST, LARGEST):
            for length in (1, 3, 5, 65, 80):
                with self.subTest(number=number, length=length):
                    self.assertEqual(last(circuit_of_numbers([number] * length)), [-1])

    def test_in_each_place_of_change(self):
        for number in (LEAST, LARGEST):
            for place, expected in ((0, -1), (1, -2), (2, -2), (3, -3)):
                numbers = [1, 0, 0, 1]
                numbers[place] = number
                with self.subTest(number=number, place=place):
                    self.assertEqual(
                        ask(change(*numbers), tick(), total(1)), [[expected], [0], [0]]
                    )

    def test_in_delta_and_total(self):
        for number in (LEAST, LARGEST):
            with self.subTest(number=number):
                self.assertEqual(ask(delta(number), total(number)), [[-1], [-1]])

    def test_in_each_place_of_holds(self):
        for number in (LEAST, LARGEST):
            for place, expected in ((0, -1), (1, -2), (2, -2)):
                numbers = [1, 0, 0]
                numbers[place] = number
                with self.subTest(number=number, place=place):
                    self.assertEqual(
                        ask(change(1, 0, 0, 7), tick(), holds(*numbers), holds(1, 0, 0))[2:], [[expected], [1, 7]]
                    )
            with self.subTest(number=number):
                self.assertEqual(ask(holds(number, number, number), holds(1, number, number)), [[-1], [-2]])

    def test_in_pending(self):
        for number in (LEAST, LARGEST):
            with self.subTest(number=number):
                self.assertEqual(
                    ask(change(1, 0, 0, 7), pending(number), pending(1))[1:], [[-1], rows((0, 0, 7))]
                )


# Each refusal but tick's, of a circuit of four nodes: 1 and 3 are inputs, 2 is none.
REFUSED = (
    (circuit_of_numbers([]), -1), (circuit_of_numbers([0] * 5), -1), (circuit_of_numbers([0] * 68), -1),
    (circuit((0, 0, 0, 1)), -2), (circuit(INPUT, INPUT, (12, 0, 0, 0)), -2), (circuit(INPUT, (7, -1, 0, 0)), -2),
    (circuit(delay(2)), -3), (circuit(INPUT, distinct(2)), -3),
    (change(5, 1, 1, 1), -1), (change(0, 1, 1, 1), -1), (change(2, 0, 0, 1), -4), (change(1, 0, 1000, 1), -2),
    (change(1, -1, 0, 1), -2), (change(1, 0, 0, 1001), -3), (change(3, 0, 0, -1001), -3),
    (delta(0), -1), (delta(5), -1), (total(0), -1), (total(5), -1), (pending(0), -1), (pending(5), -1),
    (holds(0, 0, 0), -1), (holds(5, 0, 0), -1), (holds(1, 0, -1), -2), (holds(1, 1000, 0), -2),
)


class ARefusal(unittest.TestCase):
    """It is its number alone, and all is as it was then."""

    def everything(self):
        """Whatever may be asked of four nodes."""
        asked = [ticks()]
        for k in range(1, 5):
            asked += [delta(k), total(k), holds(k, 0, 0), pending(k)]
        return asked

    def check_refused(self, nodes, ahead, refused, answer, behind):
        """It answers so; all is as it was then, and goes on so."""
        asked = self.everything()
        start = [nodes] + ahead
        found = ask(*start, *asked, refused, *asked)[len(start):]
        self.assertEqual(found[len(asked)], [answer])
        self.assertEqual(found[len(asked) + 1:], found[:len(asked)])
        self.assertEqual(
            ask(*start, refused, *behind, *asked)[len(start) + 1:], ask(*start, *behind, *asked)[len(start):]
        )
        return found

    def test_each_where_a_tick_would_go_through(self):
        nodes = circuit(INPUT, join(1, 1), INPUT, INPUT)
        ahead = [
            tick(), change(1, 0, 0, 3), change(3, 0, 0, -1), tick(), change(1, 0, 0, -1), change(4, 0, 0, 1),
            change(4, 7, 7, 1),
        ]
        for refused, answer in REFUSED:
            for behind in ([tick()], [forget()], [forget(), tick()], [tick(), tick()]):
                with self.subTest(refused=refused, behind=behind):
                    found = self.check_refused(nodes, ahead, refused, answer, behind)
                    self.assertEqual(found[:5], [[2], rows((0, 0, 3)), rows((0, 0, 3)), [1, 3], rows((0, 0, -1))])

    def test_each_where_a_tick_is_refused(self):
        # Node 4's count would be past the limit: 1001 times 1001 times 1000.
        nodes = circuit(INPUT, join(1, 1), INPUT, join(2, 3))
        ahead = [
            tick(), change(1, 0, 0, 3), change(3, 0, 0, 1000), tick(), change(1, 0, 0, 998), change(3, 5, 5, 5),
        ]
        for refused, answer in ((tick(), -9),) + REFUSED:
            for behind in ([tick()], [forget(), tick()], [change(1, 0, 0, -1), tick()], [change(1, 0, 0, -1)]):
                with self.subTest(refused=refused, behind=behind):
                    found = self.check_refused(nodes, ahead, refused, answer, behind)
                    self.assertEqual(found[:5], [[2], rows((0, 0, 3)), rows((0, 0, 3)), [1, 3], rows((0, 0, 998))])
                    self.assertEqual(found[12], rows((5, 5, 5)))

    def test_each_refusal_with_delays(self):
        nodes = circuit(INPUT, INPUT, join(1, 2), delay(3))
        ahead = [
            nodes, change(1, 1, 2, 3), change(2, 2, 4, 5), tick(),
            change(1, 1, 2, 1), tick(), change(2, 2, 4, -1),
        ]
        behind = [delta(k) for k in range(1, 5)] + [total(k) for k in range(1, 5)]
        behind += [tick()] + behind + [ticks()]
        expected = ask(*ahead, *behind)[len(ahead):]
        self.assertEqual(expected[2], rows((1, 4, 5)))
        self.assertEqual(expected[8], [3])
        for refused, answer in (
            (circuit_of_numbers([0] * 68), -1), (circuit((0, 0, 0, 1)), -2), (circuit(delay(2)), -3),
            (change(5, 1, 1, 1), -1), (change(3, 1, 1, 1), -4), (change(2, 1, 1000, 1), -2),
            (change(2, 2, 4, 1001), -3), (delta(0), -1), (total(5), -1), (holds(5, 1, 1), -1), (holds(4, 1, 1000), -2),
            (pending(5), -1),
        ):
            with self.subTest(refused=refused):
                found = ask(*ahead, refused, *behind)[len(ahead):]
                self.assertEqual(found[0], [answer])
                self.assertEqual(found[1:], expected)


if __name__ == "__main__":
    unittest.main()
