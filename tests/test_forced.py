import unittest

from spelling import FAR, begins, binds, court, decide, forced, told

# Kinds 0, 1, 2 speak for side 1, kinds 3, 4, 5 for side 0.
# Court 0 is above 1, which is above 2; court 3 is beside 1, below 0; court 4 is by itself.
LAND = [begins(1, 1, 1, 0, 0, 0), court(), court(1), court(2), court(1), court()]


def behind(*calls):
    return told(*LAND, *calls)[len(LAND):]


class NotBound(unittest.TestCase):
    def test_where_nothing_was_decided(self):
        self.assertEqual(behind(forced(0, 1), forced(2, 1, [0, 3]), forced(4, FAR, [0, 1, 2, 3, 4, 5])), [[0]] * 3)

    def test_the_reason_is_not_all_there(self):
        self.assertEqual(
            behind(decide(0, 1, 1, [0, 1, 3], [0, 1]), forced(0, 1), forced(0, 1, [0]), forced(0, 1, [1, 2, 3]))[1:],
            [[0], [0], [0]])

    def test_a_finding_for_the_other_side_that_was_not_found_in_it(self):
        self.assertEqual(
            behind(decide(0, 1, 1, [0, 3], [0]), forced(0, 1, [0, 4]), forced(0, 1, [0, 3, 5]))[1:], [[0], [0]])
        self.assertEqual(
            behind(decide(0, 1, 0, [0, 3], [3]), forced(0, 1, [1, 3]), forced(0, 1, [0, 2, 3]))[1:], [[0], [0]])


class Bound(unittest.TestCase):
    def test_for_side_1(self):
        self.assertEqual(behind(decide(0, 1, 1, [0, 3], [0]), forced(0, 1, [0, 3]), forced(0, 1, [0]))[1:],
                         [[1, 0], [1, 0]])

    def test_for_side_0(self):
        self.assertEqual(behind(decide(0, 1, 0, [0, 3], [3]), forced(0, 1, [0, 3]), forced(0, 1, [3]))[1:],
                         [[2, 0], [2, 0]])

    def test_a_finding_for_the_other_side_that_was_found_in_it_too(self):
        self.assertEqual(behind(decide(0, 1, 1, [0, 3, 4], [0]), forced(0, 1, [0, 4]), forced(0, 1, [0, 3, 4]))[1:],
                         [[1, 0], [1, 0]])

    def test_findings_for_its_own_side_may_be_new(self):
        self.assertEqual(behind(decide(0, 1, 1, [0, 3], [0]), forced(0, 1, [0, 1, 2, 3]))[1:], [[1, 0]])
        self.assertEqual(behind(decide(0, 1, 0, [0, 3], [3]), forced(0, 1, [0, 3, 4, 5]))[1:], [[2, 0]])

    def test_what_was_found_but_is_not_of_the_reason_may_be_missing(self):
        self.assertEqual(behind(decide(0, 1, 1, [0, 1, 3, 4], [1]), forced(0, 1, [1]))[1:], [[1, 0]])

    def test_several_in_order(self):
        self.assertEqual(
            behind(decide(1, 1, 1, [0, 3], [0]), decide(0, 2, 1, [1, 3], [1]), decide(0, 2, 1, [2], [2]),
                   decide(1, 3, 1, [0, 1], [0, 1]), decide(0, 3, 1, [0, 3, 4], [0]), decide(2, 4, 1, [0, 3], []),
                   forced(2, 4, [0, 1, 3]), forced(1, 4, [0, 1, 3]), forced(0, 4, [0, 1, 3]), forced(1, 4, [0, 1]))[6:],
            [[1, 0, 1, 4, 5], [1, 0, 1, 4], [1, 1, 4], [1, 0, 1, 3, 4]])

    def test_several_for_side_0_among_others_for_side_1(self):
        self.assertEqual(
            behind(decide(0, 1, 0, [0, 3], [3]), decide(0, 1, 1, [1, 4], [1]), decide(0, 1, 0, [0, 5], [5]),
                   forced(0, 1, [0, 3, 5]), forced(0, 1, [1, 4]), forced(0, 1, [1, 3]))[3:],
            [[2, 0, 2], [1, 1], [0]])

    def test_an_empty_reason(self):
        self.assertEqual(
            behind(decide(0, 1, 1, [0, 3], []), forced(0, 1), forced(0, 1, [3]), forced(0, 1, [1, 2]),
                   forced(0, 1, [4]), forced(0, 1, [3, 4]))[1:],
            [[1, 0], [1, 0], [1, 0], [0], [0]])
        self.assertEqual(behind(decide(0, 1, 0), forced(0, 1), forced(0, 1, [3]), forced(0, 1, [0]))[1:],
                         [[2, 0], [2, 0], [0]])

    def test_a_case_with_no_findings(self):
        self.assertEqual(behind(decide(0, 1, 1, [0], [0]), forced(0, 1))[1:], [[0]])
        self.assertEqual(behind(decide(0, 1, 1, [0], []), forced(0, 1))[1:], [[1, 0]])


class WhatBindsTheCourt(unittest.TestCase):
    def test_its_own_and_those_above_alone(self):
        self.assertEqual(
            behind(decide(1, 1, 1, [0], [0]), *[forced(of, 1, [0]) for of in range(5)])[1:],
            [[0], [1, 0], [1, 0], [0], [0]])

    def test_one_that_forces_but_does_not_bind_this_court_beside_one_that_does(self):
        self.assertEqual(
            behind(decide(3, 1, 0), decide(4, 1, 0), decide(2, 1, 0), decide(1, 1, 1, [0], [0]),
                   forced(1, 1, [0]), forced(3, 1), forced(2, 1, [0]))[4:],
            [[1, 3], [2, 0], [1, 3]])

    def test_the_days_before_on_and_behind(self):
        days = [0, 9, 10, 19, 20, 99999, 100000, FAR]
        answered = behind(decide(0, 10, 1), decide(0, 20, 0), *[forced(0, day) for day in days])[2:]
        self.assertEqual(answered, [[0], [0], [1, 0], [1, 0], [2, 1], [2, 1], [2, 1], [2, 1]])

    def test_days_at_the_edges(self):
        self.assertEqual(
            behind(decide(0, 0, 1), decide(0, 99999, 1), forced(0, 0), forced(0, 99998), forced(0, 99999),
                   forced(0, 100000), forced(0, FAR))[2:],
            [[1, 0], [1, 0], [1, 0, 1], [1, 0, 1], [1, 0, 1]])

    def test_one_taken_away_on_its_own_day(self):
        self.assertEqual(behind(decide(0, 10, 1), decide(0, 10, 0), forced(0, 9), forced(0, 10))[2:], [[0], [2, 1]])

    def test_one_overruled(self):
        self.assertEqual(
            behind(decide(1, 10, 1), decide(0, 20, 1, [0], [0], [0]), forced(1, 19), forced(1, 20),
                   forced(1, 20, [0]))[2:],
            [[1, 0], [0], [1, 1]])

    def test_a_barred_one(self):
        self.assertEqual(behind(decide(0, 1, 1), decide(1, 2, 0), forced(1, 2), forced(2, 2))[2:], [[1, 0], [1, 0]])


class Refused(unittest.TestCase):
    def test_no_such_court(self):
        self.assertEqual(behind(forced(5, 0), forced(FAR, FAR, [0]), forced(4, 0)), [[-2], [-2], [0]])
        self.assertEqual(told(forced(0, 0)), [[-2]])

    def test_findings_that_do_not_rise(self):
        self.assertEqual(behind(forced(0, 1, [1, 0]), forced(0, 1, [0, 0]), forced(0, 1, [0, 2, 1])), [[-1]] * 3)

    def test_findings_of_no_such_kind(self):
        self.assertEqual(behind(forced(0, 1, [6]), forced(0, 1, [0, FAR]), forced(0, 1, [5])), [[-1], [-1], [0]])
        self.assertEqual(told(court(), forced(0, 0, [0]), forced(0, 0)), [[0], [-1], [0]])
        self.assertEqual(behind(forced(0, 1, list(range(15)))), [[-1]])

    def test_no_such_court_counts_first(self):
        self.assertEqual(behind(forced(5, 1, [1, 0]), forced(5, 1, [6])), [[-2], [-2]])

    def test_nothing_is_changed(self):
        asked = [forced(9, 1), forced(0, 1, [9]), forced(0, 500, [0]), forced(0, 500)]
        self.assertEqual(behind(decide(0, 2, 1, [0], [0]), *asked, binds(0, 2), *asked, decide(0, 2, 1)),
                         [[0, 1], [-2], [-1], [1, 0], [0], [1, 0], [-2], [-1], [1, 0], [0], [1, 1]])


if __name__ == "__main__":
    unittest.main()
