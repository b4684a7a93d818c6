"""Promise 2, as far as it speaks of better and settle, and what these answer."""

from tests.lines import GREATEST, LineTest, apart, best, better, cover, settle, tell

RISING = apart(1, 2, 3, 4)
# No change makes set 12 better, though others of two things are.
STUCK = cover(4, [3, 14, 4, 1, 5, 13, 4, 6, 4, 10])
ALIKE = tell([0, 3, 3, 3])


class Better(LineTest):
    def test_the_first_is_not_the_greatest(self):
        # 1 for 4 would make 6, which is more.
        self.assert_last([RISING, better(3)], [1, 3, 5])

    def test_the_lowest_that_goes(self):
        self.assert_last([apart(5, 1, 3, 4), better(3)], [2, 3, 8])
        self.assert_last([apart(1, 1, 2, 2), better(3)], [1, 3, 3])

    def test_the_lowest_that_goes_is_ahead_of_the_lowest_that_comes(self):
        # 2 for 3 is better too, and 3 is below 4.
        self.assert_last([apart(3, 1, 2, 5), better(3)], [1, 4, 6])

    def test_the_lowest_that_comes(self):
        self.assert_last([apart(2, 1, 5, 4), better(1)], [1, 3, 5])
        self.assert_last([apart(2, 5, 1, 4), better(4)], [3, 1, 2])

    def test_what_counts_is_the_function_then(self):
        # Alone 2 is more than 3; beside 1 it's less.
        function = cover(3, [6, 3, 1, 2, 5, 4])
        self.assert_last([function, better(3)], [1, 3, 12])
        self.assert_last([function, better(5)], [1, 2, 12])
        self.assert_last([function, better(6)], [-3])

    def test_five_things(self):
        self.assert_last([apart(1, 2, 3, 4, 5), better(30)], [-3])
        self.assert_last([apart(1, 2, 3, 4, 5), better(15)], [1, 5, 14])
        self.assert_last([apart(5, 4, 3, 2, 1), better(30)], [2, 1, 11])
        self.assert_last([apart(1, 0, 0, 0, 0), better(16)], [5, 1, 1])

    def test_no_thing_in_s(self):
        for function in (RISING, STUCK, ALIKE, tell([0, 1])):
            self.assert_last([function, better(0)], [-3])

    def test_all_things_in_s(self):
        self.assert_last([RISING, better(15)], [-3])
        self.assert_last([ALIKE, better(3)], [-3])
        self.assert_last([tell([0, 1]), better(1)], [-3])
        self.assert_last([apart(1, 2, 3, 4, 5), better(31)], [-3])

    def test_no_change_makes_it_better(self):
        self.assert_last([RISING, better(12)], [-3])
        self.assert_last([STUCK, better(12)], [-3])

    def test_as_great_is_not_better(self):
        self.assert_last([ALIKE, better(1)], [-3])
        self.assert_last([ALIKE, better(2)], [-3])

    def test_not_a_set_of_these_things(self):
        for s in (16, 17, 32, GREATEST):
            self.assert_last([RISING, better(s)], [-1])
        for s in (32, 33, GREATEST):
            self.assert_last([apart(1, 2, 3, 4, 5), better(s)], [-1])

    def test_these_things_are_those_of_the_function_now(self):
        self.assert_last([RISING, ALIKE, better(4)], [-1])
        self.assert_last([ALIKE, RISING, better(4)], [3, 4, 4])


class Settle(LineTest):
    def test_one_change(self):
        self.assert_last([apart(5, 1, 3), settle(3)], [8, 5, 1, 2, 3])

    def test_several_changes_in_order(self):
        self.assert_last([RISING, settle(3)], [7, 12, 2, 1, 3, 2, 4])
        self.assert_last([apart(1, 2, 3, 4, 5), settle(1)], [5, 16, 4, 1, 2, 2, 3, 3, 4, 4, 5])

    def test_a_thing_that_went_may_come_again(self):
        self.assert_last([cover(4, [2, 1, 1, 4, 2, 3]), settle(12)], [5, 5, 2, 3, 1, 4, 3])

    def test_no_change(self):
        self.assert_last([RISING, settle(12)], [7, 12, 0])
        self.assert_last([ALIKE, settle(1)], [3, 1, 0])
        self.assert_last([ALIKE, settle(2)], [3, 2, 0])

    def test_no_thing_and_all_things(self):
        self.assert_last([RISING, settle(0)], [0, 0, 0])
        self.assert_last([RISING, settle(15)], [10, 15, 0])
        self.assert_last([tell([0, 1]), settle(0)], [0, 0, 0])
        self.assert_last([tell([0, 1]), settle(1)], [1, 1, 0])

    def test_it_may_miss_the_best(self):
        self.assert_last([STUCK, best(2)], [20, 3])
        self.assert_last([STUCK, settle(12)], [16, 12, 0])
        function = cover(5, [4, 10, 1, 10, 1, 25, 4, 22, 2, 1])
        self.assert_last([function, best(2)], [12, 3])
        self.assert_last([function, settle(5)], [10, 12, 2, 1, 2, 2, 4])

    def test_not_a_set_of_these_things(self):
        for s in (16, 17, 32, GREATEST):
            self.assert_last([RISING, settle(s)], [-1])
        for s in (32, 33, GREATEST):
            self.assert_last([apart(1, 2, 3, 4, 5), settle(s)], [-1])

    def test_these_things_are_those_of_the_function_now(self):
        self.assert_last([RISING, ALIKE, settle(4)], [-1])
        self.assert_last([ALIKE, RISING, settle(4)], [4, 8, 1, 3, 4])
