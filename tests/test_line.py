"""What is said of all calls of a line, and the way the answers are given back."""

import unittest

from chosenwell.chooser import answers
from tests.lines import GREATEST, LineTest, best, bound, brings, cover, each_answer, greed, tell

THREE = tell([0, 6, 5, 9, 4, 8, 7, 10])
ASKED = (best(2), greed(2), bound(1, 1), brings(5))
ANSWERED = [[9, 3], [9, 3, 1, 2], [9], [1, 2, 2]]


class Beginning(LineTest):
    def test_one_thing_and_nothing(self):
        for k in (0, 1, GREATEST):
            self.assert_last([best(k)], [0, 0])
            self.assert_last([bound(k, 0)], [0])
            self.assert_last([bound(k, 1)], [0])
        self.assert_last([greed(0)], [0, 0])
        self.assert_last([greed(1)], [0, 1, 1])
        self.assert_last([greed(GREATEST)], [0, 1, 1])
        self.assert_last([brings(0)], [1, 1, 0])
        self.assert_last([brings(1)], [0])

    def test_sets_of_other_things(self):
        for s in (2, 3, GREATEST):
            self.assert_last([brings(s)], [-1])
            self.assert_last([bound(1, s)], [-1])


class Line(unittest.TestCase):
    def test_calls_one_behind_another(self):
        self.assertEqual(each_answer(THREE, *ASKED), [[3, 0, 6, 5, 9, 4, 8, 7, 10]] + ANSWERED)

    def test_asking_changes_nothing(self):
        self.assertEqual(each_answer(THREE, *ASKED, *ASKED)[1:], ANSWERED * 2)

    def test_refusals_change_nothing(self):
        refused = (tell([0]), tell([1, 1]), cover(6, []), cover(1, [1]), bound(1, 8), brings(8))
        given = each_answer(THREE, *refused, *ASKED)
        self.assertEqual(given[1:7], [[-1], [-6], [-1], [-1], [-1], [-1]])
        self.assertEqual(given[7:], ANSWERED)

    def test_a_new_function_takes_the_place_of_the_old(self):
        given = each_answer(THREE, best(1), cover(2, [2, 1, 3, 2]), best(1), tell([0, 1]), best(1))
        self.assertEqual(given[1::2], [[6, 1], [3, 2], [1, 1]])

    def test_thirty_calls(self):
        self.assertEqual(each_answer(*[brings(0)] * 30), [[1, 1, 0]] * 30)

    def test_thirty_longest_calls(self):
        five = tell([0] * 32)
        self.assertEqual(each_answer(*[five] * 30), [[5] + [0] * 32] * 30)


class GivenBack(unittest.TestCase):
    def test_how_many_ahead_of_each(self):
        self.assertEqual(answers([0, 2, 0, 14, 2, 1, 3, 1, 4, 1, 0, 5, 0, 5, 2]),
                         [3, 1, 0, 7, 2, 7, 1, 3, 7, 1, 1, 1, 7, 3, 1, 1, 7, 1, -1])

    def test_cover_as_handed_in(self):
        self.assertEqual(answers([1, 2, 4, 5, 1, 3, 3, 2, 0]), [5, 2, 0, 8, 3, 8, 2, 0, 0])

    def test_refusals_are_alone(self):
        self.assertEqual(answers([0, 0, 0, 2, 2, 2, 1, 0, 0, 4, 0, 2, 5, 2]), [1, -1, 1, -6, 1, -1, 1, -1, 1, -1])

    def test_whole_numbers_in_a_list(self):
        given = answers([n for call in (THREE, *ASKED, brings(8), cover(2, [1, 1])) for n in call])
        self.assertIs(type(given), list)
        self.assertEqual({type(number) for number in given}, {int})


class Kept(unittest.TestCase):
    def test_what_is_handed_in_is_not_changed(self):
        handed = [n for call in (THREE, cover(2, [1, 1, 2, 3]), tell([1, 1]), *ASKED) for n in call]
        before = list(handed)
        answers(handed)
        self.assertEqual(handed, before)

    def test_what_is_handed_in_is_only_read(self):
        class Watched(list):
            def refuse(self, *given):
                raise AssertionError("changed")

            append = extend = insert = pop = remove = clear = reverse = sort = refuse
            __setitem__ = __delitem__ = __iadd__ = __imul__ = refuse

        handed = [n for call in (THREE, cover(3, [1, 1, 2, 3]), tell([1, 1]), *ASKED) for n in call]
        self.assertEqual(answers(Watched(handed)), answers(handed))

    def test_nothing_is_kept(self):
        self.assertEqual(answers(brings(0)), [3, 1, 1, 0])
        first = answers(THREE + brings(0))
        self.assertEqual(answers(brings(0)), [3, 1, 1, 0])
        expected = list(first)
        first.clear()
        self.assertEqual(answers(THREE + brings(0)), expected)
