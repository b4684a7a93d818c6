"""Writes calls as they are handed in, and takes apart what is answered."""

import unittest

from chosenwell.chooser import answers

GREATEST = 4294967295


def hand_over(number):
    return 2 * number if number >= 0 else 2 * -number - 1


def tell_handed(handed):
    return [0, len(handed)] + list(handed)


def tell(values):
    return tell_handed([hand_over(value) for value in values])


def cover(n, points):
    return [1, n, len(points)] + list(points)


def best(k):
    return [2, k]


def greed(k):
    return [3, k]


def bound(k, s):
    return [4, k, s]


def brings(s):
    return [5, s]


def better(s):
    return [6, s]


def settle(s):
    return [7, s]


def spend(b, prices):
    return [8, b, len(prices)] + list(prices)


def greedily(b, prices):
    return [9, b, len(prices)] + list(prices)


def three(b, prices):
    return [10, b, len(prices)] + list(prices)


def curve():
    return [11]


def apart(*weights):
    """Each thing brings its own weight, whatever else is there."""
    return cover(len(weights), [number for at, weight in enumerate(weights) for number in (weight, 1 << at)])


def each_answer(*calls):
    """What is answered of each call of one line, a list a call."""
    given = answers([number for call in calls for number in call])
    parts = []
    while given:
        parts.append(given[1:1 + given[0]])
        assert len(parts[-1]) == given[0], "fewer numbers than told ahead"
        given = given[1 + given[0]:]
    return parts


def last_answer(*calls):
    parts = each_answer(*calls)
    assert len(parts) == len(calls), "not one answer a call"
    return parts[-1]


class LineTest(unittest.TestCase):
    def assert_last(self, calls, expected):
        self.assertEqual(last_answer(*calls), expected, calls)
