"""What is said of all calls of a line, and the way the answers are given back."""

import unittest

from chosenwell.chooser import UnknownCall, answers
from tests.lines import (GREATEST, LineTest, apart, best, better, bound, brings, cover, curve, each_answer, greed,
                         greedily, settle, spend, tell, three)

THREE = tell([0, 6, 5, 9, 4, 8, 7, 10])
PRICES = [3, 2, 4]
ASKED = (best(2), greed(2), bound(1, 1), brings(5), better(6), settle(6), spend(5, PRICES), greedily(4, PRICES),
         three(4, PRICES), curve())
ANSWERED = [[9, 3], [9, 3, 1, 2], [9], [1, 2, 2], [2, 1, 8], [9, 3, 2, 2, 1, 3, 2], [9, 3], [5, 2],
            [6, 1], [0, 0, 6, 6, 9, 9, 10, 10]]
REFUSED = ((tell([0]), -1), (tell([1, 1]), -6), (cover(6, []), -1), (cover(1, [1]), -1), (bound(1, 8), -1),
           (brings(8), -1), (better(8), -1), (better(7), -3), (settle(8), -1), (spend(9, [1, 1]), -1),
           (greedily(9, [1, 1, 0]), -1), (three(9, [1, 1, 1001]), -1))


class Beginning(LineTest):
    def test_one_thing_and_nothing(self):
        for k in (0, 1, GREATEST):
            self.assert_last([best(k)], [0, 0])
            self.assert_last([bound(k, 0)], [0])
            self.assert_last([bound(k, 1)], [0])
        self.assert_last([greed(0)], [0, 0])
        self.assert_last([greed(1)], [0, 1, 1])
        self.assert_last([greed(GREATEST)], [0, 1, 1])
        self.assert_last([brings(0)], [1, 1, 0])
        self.assert_last([brings(1)], [0])

    def test_changing(self):
        for s in (0, 1):
            self.assert_last([better(s)], [-3])
            self.assert_last([settle(s)], [0, s, 0])

    def test_spending(self):
        for b in (2, 3, GREATEST):
            self.assert_last([spend(b, [2])], [0, 0])
            self.assert_last([greedily(b, [2])], [0, 1])
            self.assert_last([three(b, [2])], [0, 1])
        for b in (0, 1):
            for call in (spend, greedily, three):
                self.assert_last([call(b, [2])], [0, 0])

    def test_prices_of_other_things(self):
        for prices in ([], [1, 1], [0], [1001], [1] * 10):
            for call in (spend, greedily, three):
                self.assert_last([call(1, prices)], [-1])

    def test_curve(self):
        self.assert_last([curve()], [0, 0, 0, 0])

    def test_sets_of_other_things(self):
        for s in (2, 3, GREATEST):
            for call in (brings(s), bound(1, s), better(s), settle(s)):
                self.assert_last([call], [-1])


class Line(unittest.TestCase):
    def test_calls_one_behind_another(self):
        self.assertEqual(each_answer(THREE, *ASKED), [[3, 0, 6, 5, 9, 4, 8, 7, 10]] + ANSWERED)

    def test_asking_changes_nothing(self):
        self.assertEqual(each_answer(THREE, *ASKED, *ASKED)[1:], ANSWERED * 2)

    def test_refusals_change_nothing(self):
        given = each_answer(THREE, *[call for call, refusal in REFUSED], *ASKED)
        self.assertEqual(given[1:], [[refusal] for call, refusal in REFUSED] + ANSWERED)

    def test_all_is_as_it_was_after_each_refusal(self):
        for call, refusal in REFUSED:
            self.assertEqual(each_answer(THREE, call, *ASKED, call)[1:], [[refusal]] + ANSWERED + [[refusal]], call)

    def test_all_twelve_with_refusals_among_them(self):
        calls, expected = [THREE], [[3, 0, 6, 5, 9, 4, 8, 7, 10]]
        for place, call in enumerate(ASKED):
            calls += [REFUSED[place][0], call]
            expected += [[REFUSED[place][1]], ANSWERED[place]]
        calls += [cover(2, [2, 1, 3, 2]), better(1), settle(1), spend(2, [1, 2]), curve(), better(4), three(1, PRICES)]
        expected += [[2, 0, 2, 3, 5], [1, 2, 3], [3, 2, 1, 1, 2], [3, 2], [0, 0, 3, 3, 5, 5], [-1], [-1]]
        self.assertEqual(each_answer(*calls), expected)

    def test_a_new_function_takes_the_place_of_the_old(self):
        given = each_answer(THREE, best(1), cover(2, [2, 1, 3, 2]), best(1), tell([0, 1]), best(1))
        self.assertEqual(given[1::2], [[6, 1], [3, 2], [1, 1]])

    def test_thirty_calls(self):
        self.assertEqual(each_answer(*[brings(0)] * 30), [[1, 1, 0]] * 30)

    def test_thirty_longest_calls(self):
        five = tell([0] * 32)
        self.assertEqual(each_answer(*[five] * 30), [[5] + [0] * 32] * 30)

    def test_as_many_numbers_as_thirty_calls_may_have(self):
        self.assertEqual(len(cover(5, [1, 1] * 25) * 30), 1590)
        self.assertEqual(each_answer(*[cover(5, [1, 1] * 25)] * 30), [[-1]] * 30)
        self.assertEqual(each_answer(*[cover(5, [1, 1] * 25)] * 29, curve()), [[-1]] * 29 + [[0, 0, 0, 0]])
        longest = [apart(1, 2, 3, 4, 5)] + [cover(5, [1, 1] * 25)] * 28 + [settle(1)]
        self.assertEqual(each_answer(*longest)[1:], [[-1]] * 28 + [[5, 16, 4, 1, 2, 2, 3, 3, 4, 4, 5]])

    def test_thirty_priced_calls(self):
        longest = [1] * 10
        self.assertEqual(each_answer(*[three(GREATEST, longest)] * 30), [[-1]] * 30)
        calls = [apart(10, 10, 10, 10, 2)] + [three(40, [10, 10, 10, 10, 1])] * 29
        self.assertEqual(each_answer(*calls)[1:], [[32, 23]] * 29)

    def test_a_number_that_no_call_has(self):
        for call in (12, 13, GREATEST):
            with self.assertRaises(UnknownCall):
                answers([call])


class GivenBack(unittest.TestCase):
    def test_how_many_ahead_of_each(self):
        self.assertEqual(answers([0, 2, 0, 14, 2, 1, 3, 1, 4, 1, 0, 5, 0, 5, 2]),
                         [3, 1, 0, 7, 2, 7, 1, 3, 7, 1, 1, 1, 7, 3, 1, 1, 7, 1, -1])

    def test_cover_as_handed_in(self):
        self.assertEqual(answers([1, 2, 4, 5, 1, 3, 3, 2, 0]), [5, 2, 0, 8, 3, 8, 2, 0, 0])

    def test_later_calls_as_handed_in(self):
        self.assertEqual(answers([1, 2, 4, 5, 1, 7, 2, 6, 1, 7, 1, 8, 5, 2, 3, 5, 9, 2, 2, 1, 2, 10, 2, 2, 1, 2, 11]),
                         [5, 2, 0, 5, 7, 12, 3, 1, 2, 7, 5, 7, 2, 1, 1, 2, 2, 7, 2, 2, 5, 1, 2, 7, 2,
                          6, 0, 0, 7, 7, 12, 12])
        self.assertEqual(answers([6, 0, 6, 2, 7, 2, 8, 1, 0, 9, 1, 2, 1, 1, 10, 1, 1, 0, 11]),
                         [1, -3, 1, -1, 1, -1, 1, -1, 1, -1, 1, -1, 4, 0, 0, 0, 0])

    def test_refusals_are_alone(self):
        self.assertEqual(answers([0, 0, 0, 2, 2, 2, 1, 0, 0, 4, 0, 2, 5, 2]), [1, -1, 1, -6, 1, -1, 1, -1, 1, -1])

    def test_whole_numbers_in_a_list(self):
        refused = [call for call, refusal in REFUSED]
        given = answers([n for call in (THREE, *ASKED, *refused, cover(2, [1, 1])) for n in call])
        self.assertIs(type(given), list)
        self.assertEqual({type(number) for number in given}, {int})


class Kept(unittest.TestCase):
    def test_what_is_handed_in_is_not_changed(self):
        handed = [n for call in (THREE, cover(2, [1, 1, 2, 3]), tell([1, 1]), *ASKED) for n in call]
        before = list(handed)
        answers(handed)
        self.assertEqual(handed, before)

    def test_what_is_handed_in_is_only_read(self):
        class Watched(list):
            def refuse(self, *given):
                raise AssertionError("changed")

            append = extend = insert = pop = remove = clear = reverse = sort = refuse
            __setitem__ = __delitem__ = __iadd__ = __imul__ = refuse

        handed = [n for call in (THREE, cover(3, [1, 1, 2, 3]), tell([1, 1]), *ASKED) for n in call]
        self.assertEqual(answers(Watched(handed)), answers(handed))

    def test_nothing_is_kept(self):
        self.assertEqual(answers(brings(0)), [3, 1, 1, 0])
        first = answers(THREE + brings(0))
        self.assertEqual(answers(brings(0)), [3, 1, 1, 0])
        expected = list(first)
        first.clear()
        self.assertEqual(answers(THREE + brings(0)), expected)

    def test_nothing_is_kept_of_any_call(self):
        line = [n for call in (THREE, *ASKED) for n in call]
        first = answers(line)
        beginning = [answers(call) for call in (best(1), better(1), settle(1), greedily(1, [1]), curve())]
        self.assertEqual(beginning, [[2, 0, 0], [1, -3], [3, 0, 1, 0], [2, 0, 1], [4, 0, 0, 0, 0]])
        self.assertEqual(answers(line), first)
