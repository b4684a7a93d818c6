"""Many functions, each answer beside what the document's words come to when written out plainly."""

import itertools
import unittest
from fractions import Fraction

from tests.lines import (GREATEST, best, better, bound, brings, cover, curve, each_answer, greed, greedily, settle,
                         spend, tell, three)


def members(s):
    return frozenset(thing for thing in range(1, 6) if (s >> (thing - 1)) % 2 == 1)


def number_of(things):
    return sum(2 ** (thing - 1) for thing in things)


class Plain:
    def __init__(self, n, values):
        self.all = frozenset(range(1, n + 1))
        self.value = {members(s): value for s, value in enumerate(values)}

    def gain(self, things, thing):
        return self.value[things | {thing}] - self.value[things]

    def is_as_told(self):
        """By any two sets, one within the other, not only by two that differ in one thing."""
        if self.value[frozenset()] != 0:
            return False
        for small, large in itertools.product(self.value, repeat=2):
            if small <= large:
                for thing in self.all - large:
                    if not 0 <= self.gain(large, thing) <= self.gain(small, thing):
                        return False
        return True

    def best_of(self, some):
        things = min(some, key=lambda things: (-self.value[things], number_of(things)))
        return [self.value[things], number_of(things)]

    def best(self, k):
        return self.best_of([things for things in self.value if len(things) <= k])

    def greed(self, k):
        order = []
        while len(order) < k and len(order) < len(self.all):
            there = frozenset(order)
            order.append(min(self.all - there, key=lambda thing: (-self.gain(there, thing), thing)))
        return [self.value[frozenset(order)], number_of(order)] + order

    def bound(self, k, s):
        left = [self.gain(members(s), thing) for thing in self.all - members(s)]
        total = self.value[members(s)]
        for number in range(min(k, len(left))):
            total += left.pop(left.index(max(left)))
        return [total]

    def brings(self, s):
        outside = sorted(self.all - members(s))
        return [len(outside)] + [n for thing in outside for n in (thing, self.gain(members(s), thing))]

    def better(self, s):
        things = members(s)
        pairs = itertools.product(things, self.all - things)
        changes = [[goes, comes, self.value[things - {goes} | {comes}]] for goes, comes in pairs]
        return min([change for change in changes if change[2] > self.value[things]], default=[-3])

    def settle(self, s):
        change, changes = self.better(s), []
        while change != [-3]:
            changes.append(change[:2])
            s = number_of(members(s) - {change[0]} | {change[1]})
            change = self.better(s)
        return [self.value[members(s)], s, len(changes)] + [thing for pair in changes for thing in pair]

    def paid(self, b, prices):
        return [things for things in self.value if sum(prices[thing - 1] for thing in things) <= b]

    def spend(self, b, prices):
        return self.best_of(self.paid(b, prices))

    def made_from(self, things, b, prices):
        while True:
            parts = [(-Fraction(self.gain(things, thing), prices[thing - 1]), thing) for thing in self.all - things
                     if things | {thing} in self.paid(b, prices)]
            if not parts:
                return things
            things = things | {min(parts)[1]}

    def greedily(self, b, prices):
        return self.best_of([self.made_from(frozenset(), b, prices)])

    def three(self, b, prices):
        return self.best_of([self.made_from(things, b, prices) for things in self.paid(b, prices) if len(things) < 4])

    def curve(self):
        return [n for k in range(len(self.all) + 1) for n in (self.best(k)[0], self.greed(k)[0])]


class Steps:
    """Numbers that look like chance and are the same every time."""

    def __init__(self, start):
        self.state = start

    def below(self, limit):
        self.state = (self.state * 6364136223846793005 + 1442695040888963407) % 2 ** 64
        return (self.state >> 33) % limit


def covered(n, points):
    pairs = list(zip(points[::2], points[1::2]))
    return [sum(weight for weight, seen in pairs if members(seen) & members(s)) for s in range(2 ** n)]


class Definitions(unittest.TestCase):
    def check_prices(self, n, call, values, steps):
        plain = Plain(n, values)
        highest = (3, 9, 1000)[steps.below(3)]
        prices = [1 + steps.below(highest) for thing in range(n)]
        total = sum(prices)
        asked, expected = [call, curve()], [[n] + values, plain.curve()]
        for b in (0, 1, steps.below(total), steps.below(total), steps.below(total), total - 1, total, GREATEST):
            asked += [spend(b, prices), greedily(b, prices), three(b, prices)]
            expected += [plain.spend(b, prices), plain.greedily(b, prices), plain.three(b, prices)]
        self.assertEqual(each_answer(*asked), expected, (call, prices))

    def check_function(self, n, call, values):
        plain = Plain(n, values)
        asked, expected = [call], [[n] + values]
        for k in (0, 1, 2, n, n + 1, GREATEST):
            asked += [best(k), greed(k)]
            expected += [plain.best(k), plain.greed(k)]
        self.assertEqual(each_answer(*asked), expected)
        for s in range(2 ** n):
            ks = (0, 1, 2, n, GREATEST)
            asked = [call, brings(s), better(s), settle(s)] + [bound(k, s) for k in ks]
            expected = [[n] + values, plain.brings(s), plain.better(s), plain.settle(s)]
            expected += [plain.bound(k, s) for k in ks]
            self.assertEqual(each_answer(*asked), expected)
        self.check_prices(n, call, values, Steps(sum(values)))

    def check_told(self, n, values):
        if Plain(n, values).is_as_told():
            self.check_function(n, tell(values), values)
            return True
        self.assertEqual(each_answer(tell(values)), [[-6]], values)
        return False

    def test_every_small_function_of_one_thing(self):
        for values in itertools.product(range(-3, 4), repeat=2):
            self.check_told(1, list(values))

    def test_every_small_function_of_two_things(self):
        for values in itertools.product(range(-1, 5), repeat=4):
            self.check_told(2, list(values))

    def test_every_small_function_of_three_things(self):
        taken = [self.check_told(3, [0] + list(values)) for values in itertools.product(range(4), repeat=7)]
        self.assertGreater(sum(taken), 50)

    def test_covers(self):
        steps = Steps(1)
        for trial in range(200):
            n = 1 + trial % 5
            points = []
            for point in range(steps.below(21)):
                points += [steps.below((4, 1001)[trial % 2]), steps.below(2 ** n)]
            self.check_function(n, cover(n, points), covered(n, points))

    def test_covers_told_and_changed_a_little(self):
        steps = Steps(2)
        taken = []
        for trial in range(400):
            n = 3 + trial % 3
            points = []
            for point in range(1 + steps.below(12)):
                points += [steps.below(5), steps.below(2 ** n)]
            values = covered(n, points)
            values[steps.below(2 ** n)] += steps.below(3) - 1
            taken.append(self.check_told(n, values))
        self.assertGreater(sum(taken), 50)
        self.assertLess(sum(taken), 350)
