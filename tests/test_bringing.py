"""Promise 2, as far as it speaks of bound and brings, and what these answer."""

from tests.lines import GREATEST, LineTest, bound, brings, cover, tell

THREE = tell([0, 6, 5, 9, 4, 8, 7, 10])
FIVE = cover(5, [1, 1, 5, 2, 2, 4, 4, 8, 3, 16])


class Bound(LineTest):
    def test_greatest_are_added(self):
        self.assert_last([THREE, bound(1, 0)], [6])
        self.assert_last([THREE, bound(2, 0)], [11])
        self.assert_last([FIVE, bound(2, 1)], [10])
        self.assert_last([FIVE, bound(3, 2)], [14])

    def test_what_they_bring_to_s_each_alone(self):
        self.assert_last([THREE, bound(2, 1)], [11])
        self.assert_last([THREE, bound(1, 1)], [9])
        self.assert_last([THREE, bound(3, 0)], [15])

    def test_none(self):
        for s, value in enumerate([0, 6, 5, 9, 4, 8, 7, 10]):
            self.assert_last([THREE, bound(0, s)], [value])

    def test_all_and_more(self):
        for k in (3, 4, 6, 32, GREATEST):
            self.assert_last([THREE, bound(k, 0)], [15])
            self.assert_last([THREE, bound(k, 4)], [11])

    def test_all_things_are_in_s(self):
        for k in (0, 1, 5, GREATEST):
            self.assert_last([THREE, bound(k, 7)], [10])
            self.assert_last([FIVE, bound(k, 31)], [15])

    def test_not_a_set_of_these_things(self):
        for k in (0, 1, GREATEST):
            for s in (8, 9, 16, GREATEST):
                self.assert_last([THREE, bound(k, s)], [-1])
            for s in (32, GREATEST):
                self.assert_last([FIVE, bound(k, s)], [-1])


class Brings(LineTest):
    def test_to_no_thing(self):
        self.assert_last([THREE, brings(0)], [3, 1, 6, 2, 5, 3, 4])

    def test_to_some(self):
        self.assert_last([THREE, brings(1)], [2, 2, 3, 3, 2])
        self.assert_last([THREE, brings(2)], [2, 1, 4, 3, 2])
        self.assert_last([THREE, brings(5)], [1, 2, 2])
        self.assert_last([FIVE, brings(10)], [3, 1, 1, 3, 2, 5, 3])

    def test_what_brings_nothing_is_told(self):
        self.assert_last([tell([0, 3, 3, 3]), brings(1)], [1, 2, 0])

    def test_all_things_are_in_s(self):
        self.assert_last([THREE, brings(7)], [0])
        self.assert_last([FIVE, brings(31)], [0])

    def test_not_a_set_of_these_things(self):
        for s in (8, 9, 16, GREATEST):
            self.assert_last([THREE, brings(s)], [-1])
        for s in (32, 33, GREATEST):
            self.assert_last([FIVE, brings(s)], [-1])

    def test_these_things_are_those_of_the_function_now(self):
        self.assert_last([FIVE, THREE, brings(8)], [-1])
        self.assert_last([THREE, FIVE, brings(8)], [4, 1, 1, 2, 5, 3, 2, 5, 3])
