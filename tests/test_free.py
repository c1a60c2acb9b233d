import time
import unittest

from citedcases.courts import answers
from spelling import FAR, begins, binds, court, decide, forced, free, life, spelled, told

# Kinds 0, 2 speak for side 1, kinds 1, 3, 4, 5, 6 for side 0.
# Court 0 is above 1, which is above 2; court 3 is by itself.
LAND = [begins(1, 0, 1, 0, 0, 0, 0), court(), court(1), court(2), court()]

TEN = list(range(10))


def behind(*calls):
    return told(*LAND, *calls)[len(LAND):]


def without(*some):
    return [kind for kind in TEN if kind not in some]


def in_a_land_of_ten(*found_in):
    """Ten kinds for side 0, and one decision for side 1, by no reason, for each of what was found."""
    return [begins(*[0] * 10), court()] + [decide(0, 1, 1, found) for found in found_in]


class NotBoundAtAll(unittest.TestCase):
    def test_where_nothing_was_decided(self):
        self.assertEqual(behind(free(0, 1, 1), free(0, 1, 0), free(3, FAR, 1, [0, 1])), [[0], [0], [0]])

    def test_a_case_that_is_distinguished(self):
        self.assertEqual(
            behind(decide(0, 1, 1, [0, 1], [0]), free(0, 1, 1), free(0, 1, 1, [1, 2]), free(0, 1, 1, [0, 3]))[1:],
            [[0], [0], [0]])

    def test_bound_for_the_other_side(self):
        self.assertEqual(behind(decide(0, 1, 1, [0], [0]), forced(0, 1, [0]), free(0, 1, 0, [0]))[1:], [[1, 0], [0]])
        self.assertEqual(behind(decide(0, 1, 0, [1], [1]), forced(0, 1, [1]), free(0, 1, 1, [1]))[1:], [[2, 0], [0]])

    def test_a_case_that_has_all_findings_for_the_other_side_already(self):
        self.assertEqual(behind(decide(0, 1, 1, [0, 1], [0]), free(0, 1, 1, [0, 1, 3, 4, 5, 6]))[1:], [[0]])


class SomeMore(unittest.TestCase):
    def test_one_more(self):
        self.assertEqual(behind(decide(0, 1, 1, [0], [0]), free(0, 1, 1, [0]))[1:], [[1, 1]])
        self.assertEqual(behind(decide(0, 1, 1, [0, 1, 3], [0]), free(0, 1, 1, [0]), free(0, 1, 1, [0, 1, 2]))[1:],
                         [[1, 4], [1, 4]])

    def test_one_more_for_side_0(self):
        self.assertEqual(behind(decide(0, 1, 0, [1], [1]), free(0, 1, 0, [1]))[1:], [[1, 0]])
        self.assertEqual(behind(decide(0, 1, 0, [0, 1], [1]), free(0, 1, 0, [0, 1]), free(0, 1, 0, [1]))[1:],
                         [[1, 2], [1, 2]])

    def test_two_more(self):
        self.assertEqual(
            behind(decide(0, 1, 1, [0, 1, 3, 4, 5], [0]), decide(0, 1, 1, [0, 1, 4, 6], [0]), free(0, 1, 1, [0]))[2:],
            [[2, 3, 6]])

    def test_two_that_each_free_from_one(self):
        self.assertEqual(
            behind(decide(0, 1, 1, [0, 1, 4, 6], [0]), decide(0, 1, 1, [0, 1, 3, 5], [0]), free(0, 1, 1, [0]))[2:],
            [[2, 3, 4]])

    def test_one_that_frees_from_all_ahead_of_two_that_come_earlier(self):
        self.assertEqual(
            behind(decide(0, 1, 1, [0, 3], []), decide(0, 1, 1, [0, 1], []), free(0, 1, 1, []))[2:], [[1, 4]])

    def test_several_more(self):
        for many in range(1, 11):
            found_in = [without(left) for left in range(10 - many, 10)]
            self.assertEqual(told(*in_a_land_of_ten(*found_in), free(0, 1, 1))[-1], [many, *range(10 - many, 10)])

    def test_all_ten_kinds(self):
        found_in = [without(left) for left in TEN]
        self.assertEqual(told(*in_a_land_of_ten(*found_in), free(0, 1, 1))[-1], [10, *TEN])

    def test_the_first_ones_by_the_least_in_which_they_differ(self):
        self.assertEqual(told(*in_a_land_of_ten(without(0, 2), without(3, 9)), free(0, 1, 1))[-1], [2, 0, 3])
        # 2 and 3 do too, with a lesser greatest one; but the least in which they differ is 0.
        self.assertEqual(
            told(*in_a_land_of_ten(without(0, 2), without(0, 3), without(9, 2), without(9, 3)), free(0, 1, 1))[-1],
            [2, 0, 9])
        self.assertEqual(
            told(*in_a_land_of_ten(without(1, 2), without(1, 5), without(8, 2), without(8, 5)), free(0, 1, 1))[-1],
            [2, 1, 8])

    def test_three_that_share_their_least(self):
        # 1, 4, 5 and 1, 2, 9 both do: they differ in 2 first.
        self.assertEqual(
            told(*in_a_land_of_ten(without(1), without(2, 4), without(2, 5), without(9, 4), without(9, 5)),
                 free(0, 1, 1))[-1],
            [3, 1, 2, 9])

    def test_those_that_the_case_has_already_do_not_count(self):
        self.assertEqual(
            behind(decide(0, 1, 1, [0, 1], [0]), free(0, 1, 1, [0, 1]), free(0, 1, 1, [0]))[1:], [[1, 3], [1, 3]])
        land = in_a_land_of_ten(without(1, 9), without(2, 9))
        self.assertEqual(told(*land, free(0, 1, 1, []), free(0, 1, 1, [1]), free(0, 1, 1, [2]), free(0, 1, 1, [1, 2]),
                              free(0, 1, 1, [9]))[-5:], [[1, 9], [1, 2], [1, 1], [0], [0]])

    def test_only_those_that_speak_for_the_other_side(self):
        # 2 is a finding more too, but it speaks for the side itself.
        self.assertEqual(behind(decide(0, 1, 1, [0, 1], [0]), free(0, 1, 1, [0]))[1:], [[1, 3]])
        self.assertEqual(told(begins(0, 0, 1, 1), court(), decide(0, 1, 1, [2], [2]), free(0, 1, 1, [2]))[-1], [1, 0])


class NoneDo(unittest.TestCase):
    def test_all_were_found_in_the_decision(self):
        self.assertEqual(
            behind(decide(0, 1, 1, [0, 1, 3, 4, 5, 6], [0]), free(0, 1, 1, [0]), free(0, 1, 1, [0, 1, 3, 4, 5, 6]),
                   free(0, 1, 1), free(0, 1, 0, [0]))[1:],
            [[-6], [-6], [0], [0]])

    def test_no_kind_speaks_for_the_other_side(self):
        self.assertEqual(told(begins(1, 1), court(), decide(0, 1, 1, [0], [0]), free(0, 1, 1, [0]))[-1], [-6])
        self.assertEqual(told(begins(), court(), decide(0, 1, 0), free(0, 1, 0), free(0, 1, 1))[-2:], [[-6], [0]])

    def test_all_ten_kinds(self):
        self.assertEqual(told(*in_a_land_of_ten(TEN), free(0, 1, 1), free(0, 1, 1, TEN))[-2:], [[-6], [-6]])

    def test_of_several_decisions_one_forces_whatever_is_found(self):
        self.assertEqual(told(*in_a_land_of_ten([], [1], TEN, without(9)), free(0, 1, 1))[-1], [-6])


class WhatBindsTheCourt(unittest.TestCase):
    def test_its_own_and_those_above_alone(self):
        self.assertEqual(
            behind(decide(1, 1, 1), *[free(of, 1, 1) for of in range(4)])[1:], [[0], [1, 1], [1, 1], [0]])

    def test_several_courts_bind(self):
        self.assertEqual(
            behind(decide(0, 1, 1, [1]), decide(1, 1, 1, [1, 3]), decide(2, 1, 1, [1, 3, 4]),
                   *[free(of, 1, 1) for of in range(4)])[3:],
            [[1, 3], [1, 4], [1, 5], [0]])

    def test_the_days_before_on_and_behind(self):
        days = [0, 9, 10, 19, 20, 29, 30, 99999, 100000, FAR]
        answered = behind(decide(0, 10, 1), decide(0, 20, 1, [1], [], [0]), decide(0, 30, 0),
                          *[free(0, day, 1) for day in days])[3:]
        self.assertEqual(answered, [[0], [0], [1, 1], [1, 1], [1, 3], [1, 3], [0], [0], [0], [0]])

    def test_days_at_the_edges(self):
        days = [0, 99998, 99999, 100000, FAR]
        answered = behind(decide(0, 0, 1), decide(0, 99999, 1, [1]), *[free(0, day, 1) for day in days])[2:]
        self.assertEqual(answered, [[1, 1], [1, 1], [1, 3], [1, 3], [1, 3]])

    def test_a_barred_one(self):
        self.assertEqual(behind(decide(0, 1, 1), decide(1, 2, 0), free(1, 2, 0), free(1, 2, 1))[2:], [[0], [1, 1]])


class Refused(unittest.TestCase):
    def test_no_such_court(self):
        self.assertEqual(behind(free(4, 1, 1), free(FAR, FAR, 0), free(3, 1, 1)), [[-2], [-2], [0]])

    def test_findings_that_do_not_rise(self):
        self.assertEqual(behind(free(0, 1, 1, [1, 0]), free(0, 1, 1, [2, 2]), free(0, 1, 1, [0, 3, 1])), [[-1]] * 3)

    def test_findings_of_no_such_kind(self):
        self.assertEqual(behind(free(0, 1, 1, [7]), free(0, 1, 1, [0, FAR]), free(0, 1, 1, list(range(15))),
                                free(0, 1, 1, [6])), [[-1], [-1], [-1], [0]])

    def test_which_counts_first(self):
        self.assertEqual(behind(free(4, 1, 1, [1, 0]), free(4, 1, 1, [7])), [[-2], [-2]])
        self.assertEqual(told(*in_a_land_of_ten(TEN), free(1, 1, 1), free(0, 1, 1, [1, 0]), free(0, 1, 1, [10]))[-3:],
                         [[-2], [-1], [-1]])

    def test_nothing_is_changed(self):
        asked = [free(9, 1, 1), free(0, 1, 1, [9]), free(0, 7, 1, [0]), free(0, 900, 1, [0, 2])]
        self.assertEqual(
            behind(decide(0, 2, 1, [0], [0]), *asked, binds(0, 900), life(0), forced(0, 2, [0]), *asked,
                   decide(0, 2, 1)),
            [[0, 1], [-2], [-1], [1, 1], [1, 1], [1, 0], [1, 2], [1, 0], [-2], [-1], [1, 1], [1, 1], [1, 1]])


class InGoodTime(unittest.TestCase):
    def answered(self, found_in):
        calls = spelled(in_a_land_of_ten(*found_in) + [free(0, FAR, 1)] * 10)
        began = time.monotonic()
        answered = answers(calls)
        self.assertLess(time.monotonic() - began, 10)
        return answered

    def test_ten_calls_that_need_all_ten_kinds(self):
        answered = self.answered([without(k % 10) for k in range(30)])
        self.assertEqual(answered[-120:], [11, 10, *TEN] * 10)

    def test_ten_calls_that_nothing_frees(self):
        self.assertEqual(self.answered([without(9)] * 29 + [TEN])[-20:], [1, -6] * 10)


if __name__ == "__main__":
    unittest.main()
