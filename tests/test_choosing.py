"""What the calls best, greed and curve answer."""

from tests.lines import GREATEST, LineTest, apart, best, cover, curve, greed, tell

SEEN = cover(3, [3, 1, 2, 5, 3, 2, 2, 6])
# 1 and 2 bring as much as one another; so do 3 and 4 when one of these is there.
ALIKE = cover(4, [5, 3, 4, 12])
NOTHING = tell([0] * 8)


class Best(LineTest):
    def test_function_is_as_meant(self):
        self.assert_last([SEEN], [3, 0, 5, 5, 10, 4, 7, 7, 10])

    def test_two_at_most(self):
        self.assert_last([SEEN, best(2)], [10, 3])

    def test_one_at_most(self):
        self.assert_last([cover(3, [1, 1, 2, 2, 3, 4]), best(1)], [3, 4])

    def test_none(self):
        self.assert_last([SEEN, best(0)], [0, 0])

    def test_all_and_more(self):
        function = cover(3, [1, 1, 2, 2, 3, 4])
        for k in (3, 4, 5, 6, 32, GREATEST):
            self.assert_last([function, best(k)], [6, 7])

    def test_of_as_great_ones_the_lowest(self):
        self.assert_last([SEEN, best(1)], [5, 1])
        self.assert_last([ALIKE, best(1)], [5, 1])
        self.assert_last([ALIKE, best(2)], [9, 5])
        self.assert_last([ALIKE, best(GREATEST)], [9, 5])

    def test_the_lowest_is_by_number_not_by_how_many_things(self):
        # 1 and 2 together are as good as 3 alone, and set 3 is below set 4.
        function = cover(3, [2, 5, 3, 6])
        self.assert_last([function, best(1)], [5, 4])
        self.assert_last([function, best(2)], [5, 3])

    def test_where_nothing_brings_anything(self):
        for k in (0, 1, 3, GREATEST):
            self.assert_last([NOTHING, best(k)], [0, 0])

    def test_five_things(self):
        function = cover(5, [1, 1, 2, 2, 3, 4, 4, 8, 5, 16])
        self.assert_last([function, best(3)], [12, 28])


class Greed(LineTest):
    def test_greed_may_miss_the_best(self):
        function = cover(3, [4, 1, 3, 5, 3, 6, 4, 2, 2, 4])
        self.assert_last([function, best(2)], [14, 3])
        self.assert_last([function, greed(2)], [12, 5, 3, 1])

    def test_order_in_which_they_are_taken(self):
        function = cover(5, [1, 1, 5, 2, 2, 4, 4, 8, 3, 16])
        self.assert_last([function, greed(5)], [15, 31, 2, 4, 5, 3, 1])
        self.assert_last([function, greed(3)], [12, 26, 2, 4, 5])

    def test_none(self):
        self.assert_last([SEEN, greed(0)], [0, 0])

    def test_all_and_more(self):
        for k in (3, 4, 5, 6, 32, GREATEST):
            self.assert_last([SEEN, greed(k)], [10, 7, 1, 2, 3])

    def test_of_as_much_the_lowest(self):
        self.assert_last([ALIKE, greed(1)], [5, 1, 1])
        self.assert_last([ALIKE, greed(2)], [9, 5, 1, 3])
        self.assert_last([ALIKE, greed(3)], [9, 7, 1, 3, 2])

    def test_what_counts_is_what_is_brought_to_those_there(self):
        # Alone 2 brings more than 3; beside 1 it brings less.
        function = cover(3, [6, 3, 3, 1, 2, 2, 4, 4])
        self.assert_last([function, greed(2)], [13, 5, 1, 3])

    def test_what_brings_nothing_is_taken_too(self):
        self.assert_last([NOTHING, greed(2)], [0, 3, 1, 2])
        self.assert_last([NOTHING, greed(GREATEST)], [0, 7, 1, 2, 3])


class Curve(LineTest):
    def test_greed_and_the_best_differ(self):
        function = cover(3, [4, 1, 3, 5, 3, 6, 4, 2, 2, 4])
        self.assert_last([function, curve()], [0, 0, 8, 8, 14, 12, 16, 16])

    def test_every_number_of_things(self):
        self.assert_last([tell([0, 7]), curve()], [0, 0, 7, 7])
        self.assert_last([apart(2, 3), curve()], [0, 0, 3, 3, 5, 5])
        self.assert_last([SEEN, curve()], [0, 0, 5, 5, 10, 10, 10, 10])
        self.assert_last([ALIKE, curve()], [0, 0, 5, 5, 9, 9, 9, 9, 9, 9])
        self.assert_last([apart(1, 5, 2, 4, 3), curve()], [0, 0, 5, 5, 9, 9, 12, 12, 14, 14, 15, 15])

    def test_where_nothing_brings_anything(self):
        self.assert_last([NOTHING, curve()], [0] * 8)
