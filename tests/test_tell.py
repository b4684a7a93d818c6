"""Promise 1, as far as it speaks of tell."""

from tests.lines import GREATEST, LineTest, best, brings, last_answer, tell, tell_handed

TWO = [0, 5, 4, 7]
THREE = [0, 6, 5, 9, 4, 8, 7, 10]


def sizes(n):
    return [bin(s).count("1") for s in range(2 ** n)]


class TellTaken(LineTest):
    def test_one_thing(self):
        self.assert_last([tell([0, 7])], [1, 0, 7])

    def test_two_things(self):
        self.assert_last([tell(TWO)], [2] + TWO)

    def test_three_things(self):
        self.assert_last([tell(THREE)], [3] + THREE)

    def test_four_things(self):
        values = [min(3 * size, 7) for size in sizes(4)]
        self.assert_last([tell(values)], [4] + values)

    def test_five_things(self):
        values = [min(2 * size, 5) for size in sizes(5)]
        self.assert_last([tell(values)], [5] + values)

    def test_what_is_handed_over_is_halved(self):
        self.assert_last([tell_handed([0, 14])], [1, 0, 7])

    def test_all_nothing(self):
        for n in range(1, 6):
            self.assert_last([tell([0] * 2 ** n)], [n] + [0] * 2 ** n)

    def test_brings_nothing_more_is_taken(self):
        self.assert_last([tell([0, 3, 3, 3])], [2, 0, 3, 3, 3])

    def test_brings_as_much_to_more_is_taken(self):
        self.assert_last([tell([0, 3, 4, 7])], [2, 0, 3, 4, 7])

    def test_greatest_value(self):
        self.assert_last([tell_handed([0, 20000])], [1, 0, 10000])
        self.assert_last([tell_handed([0] + [20000] * 31)], [5, 0] + [10000] * 31)

    def test_the_last_taken_holds(self):
        self.assert_last([tell(THREE), tell([0, 2]), best(5)], [2, 1])


class TellWrongNumbers(LineTest):
    def test_other_numbers_of_values(self):
        for count in range(41):
            if count not in (2, 4, 8, 16, 32):
                self.assert_last([tell_handed([0] * count)], [-1])

    def test_value_above_the_greatest(self):
        for handed in (20001, 20002, GREATEST):
            self.assert_last([tell_handed([0, handed])], [-1])

    def test_one_value_above_among_many(self):
        for count in (2, 4, 8, 16, 32):
            for place in range(count):
                handed = [0] * count
                handed[place] = 20002
                self.assert_last([tell_handed(handed)], [-1])

    def test_ahead_of_a_wrong_function(self):
        self.assert_last([tell_handed([2, 20001])], [-1])
        self.assert_last([tell_handed([20002, 0])], [-1])
        self.assert_last([tell([1])], [-1])
        self.assert_last([tell([0, 1, 1])], [-1])
        self.assert_last([tell_handed([0, 2, 2, 20002])], [-1])


class TellWrongFunction(LineTest):
    def test_not_0_for_no_thing(self):
        self.assert_last([tell([1, 1])], [-6])
        self.assert_last([tell([10000, 10000])], [-6])

    def test_below_0_for_no_thing(self):
        self.assert_last([tell([-1, 0])], [-6])
        self.assert_last([tell_handed([1, 0])], [-6])

    def test_below_0(self):
        for value in (-1, -2, -10000):
            self.assert_last([tell([0, value])], [-6])
        self.assert_last([tell_handed([0, 19999])], [-6])

    def test_a_thing_brings_less_than_0(self):
        self.assert_last([tell([0, 3, 3, 2])], [-6])
        self.assert_last([tell([0, 3, 5, 4])], [-6])
        self.assert_last([tell(THREE[:7] + [8])], [-6])

    def test_a_thing_brings_more_with_another(self):
        self.assert_last([tell([0, 3, 4, 8])], [-6])
        self.assert_last([tell([0, 0, 0, 1])], [-6])

    def test_more_with_another_only_beyond_a_thing(self):
        self.assert_last([tell([0, 2, 2, 3, 2, 3, 3, 5])], [-6])

    def test_wrong_only_at_the_last_set(self):
        values = [min(size, 4) for size in sizes(5)]
        self.assert_last([tell(values)], [5] + values)
        self.assert_last([tell(values[:31] + [6])], [-6])
        self.assert_last([tell(values[:31] + [3])], [-6])


class TellRefused(LineTest):
    def test_all_is_as_it_was(self):
        for refused in ([0, 0, 0], [0, 10001], [1, 1], [0, -1], [0, 1, 1, 3]):
            self.assertIn(last_answer(tell(refused)), ([-1], [-6]))
            self.assert_last([tell(TWO), tell(refused), brings(0)], [2, 1, 5, 2, 4])
            self.assert_last([tell(refused), brings(0)], [1, 1, 0])
