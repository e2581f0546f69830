"""How the tests write a line's calls and read its answers."""

from changenet.nodes import answers

LEAST = -2147483648
LARGEST = 2147483647

INPUT = (0, 0, 0, 0)


def plus(x, y):
    return (1, x, y, 0)


def minus(x, y):
    return (2, x, y, 0)


def swap(x):
    return (3, x, 0, 0)


def keep(x, t, n):
    return (4, x, t, n)


def move(x, m, n):
    return (5, x, m, n)


def join(x, y):
    return (6, x, y, 0)


def distinct(x):
    return (7, x, 0, 0)


def counts(x):
    return (8, x, 0, 0)


def least(x):
    return (9, x, 0, 0)


def greatest(x):
    return (10, x, 0, 0)


def delay(x):
    return (11, x, 0, 0)


def circuit_of_numbers(numbers):
    return [0, len(numbers)] + list(numbers)


def circuit(*nodes):
    return circuit_of_numbers([number for node in nodes for number in node])


def change(k, a, b, count):
    return [1, k, a, b, count]


def tick():
    return [2]


def delta(k):
    return [3, k]


def total(k):
    return [4, k]


def holds(k, a, b):
    return [5, k, a, b]


def pending(k):
    return [6, k]


def forget():
    return [7]


def ticks():
    return [8]


def rows(*told):
    """A collection as it is told; each row as (a, b, count), in order."""
    return [len(told)] + [number for row in told for number in row]


def split_answers(numbers):
    """The answers one by one, each a list of its numbers."""
    found = []
    at = 0
    while at < len(numbers):
        length = numbers[at]
        assert length >= 1 and at + 1 + length <= len(numbers), numbers
        found.append(numbers[at + 1:at + 1 + length])
        at += 1 + length
    return found


def ask(*calls):
    """The answers to these calls, which are one line; what the interface says of every line is seen to here."""
    assert 1 <= len(calls) <= 60, len(calls)
    line = [number for call in calls for number in call]
    handed_in = list(line)
    given_back = answers(handed_in)
    assert handed_in == line, "the list that was handed in is another now"
    assert type(given_back) is list
    assert all(type(number) is int for number in given_back), given_back
    found = split_answers(given_back)
    assert len(found) == len(calls), (len(found), len(calls))
    return found


def last(*calls):
    """The last call's answer."""
    return ask(*calls)[-1]
