"""Promise 2, as far as it speaks of spend, greedily and three, and what these answer."""

from tests.lines import GREATEST, LineTest, apart, cover, greedily, spend, tell, three

PRICED = (spend, greedily, three)
SEEN = cover(3, [3, 1, 2, 5, 3, 2, 2, 6])
ALIKE = tell([0, 3, 3, 3])
# The last thing brings most for its price, and keeps one of the others from being paid.
LURED_FOUR = apart(10, 10, 10, 2)
LURED_FIVE = apart(10, 10, 10, 10, 2)


class Spend(LineTest):
    def test_nothing_to_spend(self):
        self.assert_last([SEEN, spend(0, [1, 1, 1])], [0, 0])

    def test_just_what_the_prices_come_to_and_one_less(self):
        self.assert_last([SEEN, spend(9, [4, 5, 3])], [10, 3])
        self.assert_last([SEEN, spend(8, [4, 5, 3])], [7, 5])
        self.assert_last([SEEN, spend(7, [4, 5, 3])], [7, 5])
        self.assert_last([SEEN, spend(6, [4, 5, 3])], [5, 1])
        self.assert_last([SEEN, spend(4, [4, 5, 3])], [5, 1])
        self.assert_last([SEEN, spend(3, [4, 5, 3])], [4, 4])
        self.assert_last([SEEN, spend(2, [4, 5, 3])], [0, 0])

    def test_of_as_great_ones_the_lowest(self):
        self.assert_last([ALIKE, spend(1, [1, 1])], [3, 1])
        self.assert_last([ALIKE, spend(2, [2, 1])], [3, 1])
        self.assert_last([ALIKE, spend(1, [2, 1])], [3, 2])
        self.assert_last([tell([0] * 8), spend(3, [1, 1, 1])], [0, 0])

    def test_the_lowest_is_by_number(self):
        # 1 and 2 together are as good as 3 alone, which has the lower price.
        self.assert_last([cover(3, [2, 5, 3, 6]), spend(2, [1, 1, 1])], [5, 3])

    def test_all_can_be_paid(self):
        function = apart(1, 2, 3, 4, 5)
        for b in (5000, 5001, GREATEST):
            self.assert_last([function, spend(b, [1000] * 5)], [15, 31])
        self.assert_last([function, spend(4999, [1000] * 5)], [14, 30])

    def test_it_finds_what_greed_misses(self):
        self.assert_last([LURED_FIVE, spend(40, [10, 10, 10, 10, 1])], [40, 15])


class Greedily(LineTest):
    def test_divided_by_its_price(self):
        # 1 brings more, 2 brings more for its price.
        self.assert_last([apart(10, 8), greedily(5, [5, 3])], [8, 2])
        self.assert_last([apart(8, 10), greedily(5, [3, 5])], [8, 1])

    def test_nothing_is_rounded(self):
        # 7 for 3 is a little less than 12 for 5, 8999 for 1000 a little more than 8990 for 999.
        self.assert_last([apart(7, 12), greedily(5, [3, 5])], [12, 2])
        self.assert_last([apart(12, 7), greedily(5, [5, 3])], [12, 1])
        self.assert_last([apart(1, 2), greedily(5, [4, 5])], [2, 2])
        self.assert_last([tell([0, 8990, 8999, 8999]), greedily(1000, [999, 1000])], [8999, 2])
        self.assert_last([tell([0, 8999, 8990, 8999]), greedily(1000, [1000, 999])], [8999, 1])

    def test_of_as_much_for_its_price_the_lowest(self):
        self.assert_last([apart(4, 2), greedily(2, [2, 1])], [4, 1])
        self.assert_last([apart(2, 4), greedily(2, [1, 2])], [2, 1])
        self.assert_last([apart(6, 9, 3), greedily(3, [2, 3, 1])], [9, 5])

    def test_what_counts_is_what_is_brought_to_those_there(self):
        # Alone 2 brings more than 3; beside 1 it brings less.
        function = cover(3, [6, 3, 3, 1, 2, 2, 4, 4])
        self.assert_last([function, greedily(2, [1, 1, 1])], [13, 5])

    def test_what_brings_nothing_is_taken_too(self):
        self.assert_last([ALIKE, greedily(2, [1, 1])], [3, 3])
        self.assert_last([ALIKE, greedily(1, [1, 1])], [3, 1])
        self.assert_last([tell([0] * 8), greedily(2, [1, 1, 1])], [0, 3])
        self.assert_last([tell([0] * 8), greedily(2, [3, 1, 1])], [0, 6])

    def test_of_those_that_bring_nothing_the_lowest_whatever_the_price(self):
        self.assert_last([tell([0] * 4), greedily(5, [5, 1])], [0, 1])

    def test_passed_over_what_can_not_be_paid_any_more(self):
        function = apart(5, 20, 2)
        self.assert_last([function, greedily(5, [1, 5, 2])], [7, 5])
        self.assert_last([function, greedily(4, [1, 5, 2])], [7, 5])
        self.assert_last([function, greedily(6, [1, 5, 2])], [25, 3])
        self.assert_last([function, greedily(2, [1, 5, 2])], [5, 1])

    def test_it_goes_on_till_none_can_be_paid(self):
        function = apart(1, 2, 3, 4, 5)
        for taken, expected in enumerate(([0, 0], [5, 16], [9, 24], [12, 28], [14, 30], [15, 31], [15, 31])):
            self.assert_last([function, greedily(2 * taken, [2] * 5)], expected)
            self.assert_last([function, greedily(2 * taken + 1, [2] * 5)], expected)

    def test_all_can_be_paid(self):
        for b in (3000, 3001, GREATEST):
            self.assert_last([SEEN, greedily(b, [1000] * 3)], [10, 7])

    def test_nothing_to_spend(self):
        self.assert_last([SEEN, greedily(0, [1, 1, 1])], [0, 0])

    def test_greed_may_miss_the_best(self):
        self.assert_last([LURED_FOUR, greedily(30, [10, 10, 10, 1])], [22, 11])


class Three(LineTest):
    def test_it_finds_more_than_greedily(self):
        self.assert_last([apart(2, 3), three(6, [3, 6])], [3, 2])
        self.assert_last([apart(2, 3), greedily(6, [3, 6])], [2, 1])

    def test_begun_with_three(self):
        # Begun with two of the first three, the fourth is taken and the third can't be paid.
        self.assert_last([LURED_FOUR, three(30, [10, 10, 10, 1])], [30, 7])
        self.assert_last([LURED_FOUR, greedily(30, [10, 10, 10, 1])], [22, 11])

    def test_not_begun_with_four(self):
        self.assert_last([LURED_FIVE, three(40, [10, 10, 10, 10, 1])], [32, 23])
        self.assert_last([LURED_FIVE, spend(40, [10, 10, 10, 10, 1])], [40, 15])

    def test_begun_only_with_what_can_be_paid(self):
        self.assert_last([LURED_FOUR, three(29, [10, 10, 10, 1])], [22, 11])
        self.assert_last([LURED_FOUR, three(9, [10, 10, 10, 1])], [2, 8])
        self.assert_last([LURED_FOUR, three(10, [10, 10, 10, 1])], [10, 1])

    def test_begun_with_no_thing_where_none_can_be_paid(self):
        self.assert_last([LURED_FOUR, three(9, [10, 10, 10, 10])], [0, 0])

    def test_what_it_is_begun_with_goes_on(self):
        self.assert_last([apart(1, 2, 3, 4, 5), three(8, [2] * 5)], [14, 30])
        self.assert_last([apart(1, 2, 3, 4, 5), three(10, [2] * 5)], [15, 31])

    def test_of_as_great_ones_the_lowest(self):
        # From no thing on 2 is taken; begun with 1, it's as great.
        self.assert_last([apart(5, 5), three(3, [3, 2])], [5, 1])
        self.assert_last([apart(5, 5), greedily(3, [3, 2])], [5, 2])
        self.assert_last([ALIKE, three(1, [1, 1])], [3, 1])

    def test_only_sets_that_greed_makes(self):
        # 1 alone would be as great and lower, but greed goes on from it.
        self.assert_last([ALIKE, three(2, [1, 1])], [3, 3])
        self.assert_last([tell([0] * 8), three(2, [1, 1, 1])], [0, 3])

    def test_nothing_to_spend(self):
        for n in range(1, 6):
            self.assert_last([apart(*range(1, n + 1)), three(0, [1] * n)], [0, 0])

    def test_every_number_of_things(self):
        self.assert_last([apart(4), three(1, [1])], [4, 1])
        self.assert_last([apart(4), three(1, [2])], [0, 0])
        self.assert_last([apart(4, 7), three(2, [1, 2])], [7, 2])
        self.assert_last([apart(4, 7, 2), three(3, [1, 3, 2])], [7, 2])
        self.assert_last([apart(4, 7, 2, 9), three(4, [1, 3, 2, 4])], [11, 3])
        self.assert_last([apart(4, 7, 2, 9, 6), three(6, [1, 3, 2, 4, 2])], [17, 19])

    def test_all_can_be_paid(self):
        for b in (5000, GREATEST):
            self.assert_last([apart(1, 2, 3, 4, 5), three(b, [1000] * 5)], [15, 31])


class PricesRefused(LineTest):
    def assert_each(self, function, b, prices, expected):
        for call in PRICED:
            self.assert_last([function, call(b, prices)], expected)

    def test_another_number_of_prices(self):
        for n in range(1, 6):
            for count in range(11):
                if count != n:
                    for b in (0, 7, GREATEST):
                        self.assert_each(apart(*[1] * n), b, [1] * count, [-1])

    def test_just_so_many_prices(self):
        for n in range(1, 6):
            self.assert_each(apart(*[1] * n), 5, [1] * n, [n, 2 ** n - 1])

    def test_price_not_1_to_1000(self):
        for n in range(1, 6):
            for place in range(n):
                for wrong in (0, 1001, GREATEST):
                    prices = [1] * n
                    prices[place] = wrong
                    for b in (0, GREATEST):
                        self.assert_each(apart(*[1] * n), b, prices, [-1])

    def test_price_of_1_and_of_1000(self):
        for b, expected in ((0, [0, 0]), (1, [3, 1]), (1000, [4, 2]), (1001, [7, 3])):
            self.assert_last([apart(3, 4), spend(b, [1, 1000])], expected)
        self.assert_each(apart(3, 4), 1001, [1, 1000], [7, 3])
        self.assert_each(apart(3, 4), 999, [1000, 1000], [0, 0])

    def test_these_things_are_those_of_the_function_now(self):
        for call in PRICED:
            self.assert_last([SEEN, ALIKE, call(9, [1, 1, 1])], [-1])
            self.assert_last([ALIKE, SEEN, call(9, [1, 1])], [-1])
