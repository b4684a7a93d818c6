"""Promise 1, as far as it speaks of cover."""

from tests.lines import GREATEST, LineTest, best, brings, cover

SEEN = [5, 1, 3, 3, 2, 6]


class CoverTaken(LineTest):
    def test_two_things(self):
        self.assert_last([cover(2, [5, 1, 3, 3, 2, 2])], [2, 0, 8, 5, 10])

    def test_three_things(self):
        self.assert_last([cover(3, SEEN)], [3, 0, 8, 5, 10, 2, 10, 5, 10])

    def test_every_number_of_things(self):
        for n in range(1, 6):
            alone = [number for thing in range(n) for number in (1, 1 << thing)]
            sizes = [bin(s).count("1") for s in range(2 ** n)]
            self.assert_last([cover(n, alone)], [n] + sizes)

    def test_no_point(self):
        for n in range(1, 6):
            self.assert_last([cover(n, [])], [n] + [0] * 2 ** n)

    def test_one_point(self):
        self.assert_last([cover(1, [9, 1])], [1, 0, 9])
        self.assert_last([cover(2, [9, 2])], [2, 0, 0, 9, 9])

    def test_twenty_points(self):
        self.assert_last([cover(1, [1000, 1] * 20)], [1, 0, 20000])
        self.assert_last([cover(5, [1000, 31] * 20)], [5, 0] + [20000] * 31)

    def test_weights_at_the_edges(self):
        self.assert_last([cover(2, [0, 3])], [2, 0, 0, 0, 0])
        self.assert_last([cover(2, [1000, 1, 0, 2])], [2, 0, 1000, 0, 1000])

    def test_point_whose_set_is_0_is_never_met(self):
        self.assert_last([cover(2, [7, 0])], [2, 0, 0, 0, 0])
        self.assert_last([cover(2, [7, 0, 4, 2])], [2, 0, 0, 4, 4])

    def test_the_greatest_set_of_these_things(self):
        for n in range(1, 6):
            self.assert_last([cover(n, [1, 2 ** n - 1])], [n, 0] + [1] * (2 ** n - 1))

    def test_the_last_taken_holds(self):
        self.assert_last([cover(3, SEEN), cover(1, [4, 1]), best(5)], [4, 1])


class CoverRefused(LineTest):
    def test_number_of_things(self):
        for n in (0, 6, 7, 32, 40, GREATEST):
            self.assert_last([cover(n, [])], [-1])
            self.assert_last([cover(n, [1, 1])], [-1])

    def test_number_left_over(self):
        self.assert_last([cover(2, [1])], [-1])
        self.assert_last([cover(2, [1, 1, 1])], [-1])
        self.assert_last([cover(2, [1, 1] * 19 + [1])], [-1])
        self.assert_last([cover(2, [1, 1] * 20 + [1])], [-1])

    def test_weight_above_1000(self):
        for weight in (1001, GREATEST):
            self.assert_last([cover(2, [weight, 1])], [-1])
            self.assert_last([cover(2, [1, 1, weight, 1])], [-1])
            self.assert_last([cover(2, [weight, 0])], [-1])

    def test_set_not_of_these_things(self):
        for n in range(1, 6):
            for s in (2 ** n, 2 ** n + 1, 2 ** (n + 1), GREATEST):
                self.assert_last([cover(n, [1, s])], [-1])
                self.assert_last([cover(n, [1, 1, 0, s])], [-1])

    def test_more_than_twenty_points(self):
        for count in (21, 25):
            self.assert_last([cover(2, [1, 1] * count)], [-1])

    def test_all_is_as_it_was(self):
        for refused in (cover(0, []), cover(6, []), cover(1, [1]), cover(1, [1001, 1]), cover(1, [1, 2]),
                        cover(1, [1, 1] * 21)):
            self.assert_last([refused], [-1])
            self.assert_last([cover(3, SEEN), refused, brings(0)], [3, 1, 8, 2, 5, 3, 2])
            self.assert_last([refused, brings(0)], [1, 1, 0])
