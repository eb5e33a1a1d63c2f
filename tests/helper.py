"""Calls as lists of numbers, and answers taken apart again."""

from roomhouse.blocks import answers

PAGE = 4096
LOWEST = -2 ** 63
HIGHEST = 2 ** 63 - 1
ENDS = (LOWEST, LOWEST + 1, -1, HIGHEST - 1, HIGHEST)


def begin(size, chunk, spare, g=()):
    return [0, size, chunk, spare, len(g), *g]


def take(n, e=4, g=()):
    return [1, n, e, len(g), *g]


def give(p, g=()):
    return [2, p, len(g), *g]


def resize(p, n, g=()):
    return [3, p, n, len(g), *g]


def told(p):
    return [4, p]


def holds(at):
    return [5, at]


def put(at, row):
    return [6, at, len(row), *row]


def get(at, n):
    return [7, at, n]


def copy(origin, to, n):
    return [8, origin, to, n]


def blocks(start, most):
    return [9, start, most]


def counts():
    return [10]


def sums():
    return [11]


def trim(g=()):
    return [12, len(g), *g]


def more(n):
    return (1, n)


def less(p, n):
    return (2, p, n)


def flat(calls):
    return [number for call in calls for number in call]


def split(numbers):
    """For each call its asks, as tuples, and then what it answers."""
    parts = []
    at = 0
    while at < len(numbers):
        parts.append(apart(numbers[at + 1:at + 1 + numbers[at]]))
        at += 1 + numbers[at]
    return parts


def apart(answer):
    asks = []
    at = 1
    for _ in range(answer[0]):
        long = {1: 2, 2: 3}[answer[at]]
        asks.append(tuple(answer[at:at + long]))
        at += long
    return asks, answer[at:]


def run(*calls):
    """The (asks, answer) of each of the calls."""
    return split(answers(flat(calls)))


def last(*calls):
    return run(*calls)[-1]


def only(*calls):
    """What the last call answers, its asks left out."""
    return last(*calls)[1]
