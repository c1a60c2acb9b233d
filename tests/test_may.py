import unittest

from spelling import FAR, begins, binds, court, decide, life, may, told

# Kinds 0, 1, 2 speak for side 1, kinds 3, 4, 5 for side 0.
# Court 0 is above 1, which is above 2; court 3 is beside 1, below 0; court 4 is by itself.
LAND = [begins(1, 1, 1, 0, 0, 0), court(), court(1), court(2), court(1), court()]


def behind(*calls):
    return told(*LAND, *calls)[len(LAND):]


class NothingGainsays(unittest.TestCase):
    def test_where_nothing_was_decided(self):
        self.assertEqual(behind(may(0, 1, 1), may(4, FAR, 0, [0, 3], [3])), [[1], [1]])

    def test_decisions_for_the_same_side(self):
        self.assertEqual(
            behind(decide(0, 1, 1, [0, 3], [0]), decide(0, 1, 1), may(0, 1, 1, [0, 3], [0]), may(0, 1, 1))[2:],
            [[1], [1]])

    def test_a_reason_that_was_not_found_in_the_other(self):
        self.assertEqual(
            behind(decide(0, 1, 1, [0, 3], [0]), may(0, 1, 0, [0, 4], [4]), may(0, 1, 0, [0, 3, 4], [3, 4]),
                   may(0, 1, 0, [0, 3, 4], [3]))[1:],
            [[1], [1], [0, 0]])

    def test_the_others_reason_is_not_all_found(self):
        self.assertEqual(
            behind(decide(0, 1, 1, [0, 1, 3], [0, 1]), may(0, 1, 0, [0, 3], [3]), may(0, 1, 0, [3], [3]),
                   may(0, 1, 0, [0, 1, 3], [3]))[1:],
            [[1], [1], [0, 0]])


class SomeGainsay(unittest.TestCase):
    def test_several_in_order(self):
        self.assertEqual(
            behind(decide(2, 1, 1, [0, 3], [0]), decide(0, 1, 1, [1, 3], [1]), decide(0, 1, 0, [4], [4]),
                   decide(1, 2, 1, [2], [2]), decide(1, 2, 1, [0, 1, 3], []), decide(3, 2, 1, [3], []),
                   may(2, 2, 0, [0, 1, 2, 3], [3]), may(1, 2, 0, [0, 1, 2, 3], [3]), may(0, 2, 0, [0, 1, 2, 3], [3]),
                   may(3, 2, 0, [0, 1, 2, 3], [3]), may(2, 2, 1, [0, 4], []))[6:],
            [[0, 0, 1, 4], [0, 1, 4], [0, 1], [0, 1, 5], [0, 2]])

    def test_for_side_1(self):
        self.assertEqual(behind(decide(0, 1, 0, [0, 3], [3]), may(0, 1, 1, [0, 3], [0]), may(0, 1, 1, [1, 3], [1]))[1:],
                         [[0, 0], [1]])

    def test_an_empty_reason(self):
        self.assertEqual(
            behind(decide(0, 1, 1, [0], [0]), may(0, 1, 0), may(0, 1, 0, [0]), may(0, 1, 0, [0, 3], []))[1:],
            [[1], [0, 0], [0, 0]])
        self.assertEqual(behind(decide(0, 1, 1), may(0, 1, 0), may(0, 1, 0, [3], [3]))[1:], [[0, 0], [1]])

    def test_findings_beyond_the_reasons_do_not_matter(self):
        # Though the court isn't bound on this case, so narrow a reason would gainsay.
        self.assertEqual(behind(decide(0, 1, 1, [0, 2, 3], [0]), may(0, 1, 0, [0, 1, 3, 4, 5], [3]))[1:], [[0, 0]])


class WhatBindsTheCourt(unittest.TestCase):
    def test_its_own_and_those_above_alone(self):
        self.assertEqual(behind(decide(1, 1, 1), *[may(of, 1, 0) for of in range(5)])[1:],
                         [[1], [0, 0], [0, 0], [1], [1]])

    def test_the_days_before_on_and_behind(self):
        days = [0, 9, 10, 19, 20, 99999, 100000, FAR]
        answered = behind(decide(0, 10, 1), decide(0, 20, 1, [0], [0], [0]), *[may(0, day, 0, [0]) for day in days])[2:]
        self.assertEqual(answered, [[1], [1], [0, 0], [0, 0], [0, 1], [0, 1], [0, 1], [0, 1]])

    def test_days_at_the_edges(self):
        days = [0, 99998, 99999, 100000, FAR]
        answered = behind(decide(0, 0, 1), decide(0, 99999, 1), *[may(0, day, 0) for day in days])[2:]
        self.assertEqual(answered, [[0, 0], [0, 0], [0, 0, 1], [0, 0, 1], [0, 0, 1]])

    def test_a_barred_one_and_one_taken_away(self):
        self.assertEqual(
            behind(decide(0, 1, 1), decide(1, 2, 0), may(1, 2, 1), decide(0, 3, 0), may(1, 3, 0), may(1, 3, 1))[2:],
            [[1], [2, 1, 0], [1], [0, 2]])

    def test_a_day_before_the_last_decisions_is_not_refused(self):
        self.assertEqual(behind(decide(0, 10, 1), may(0, 5, 0), may(0, 10, 0))[1:], [[1], [0, 0]])

    def test_thirty_decisions_are_room_enough(self):
        self.assertEqual(behind(*[decide(0, 1, 1)] * 30, may(0, 1, 1), may(0, 1, 0))[30:], [[1], [0, *range(30)]])


class Refused(unittest.TestCase):
    def refused(self, *args):
        self.assertEqual(behind(may(*args)), [[-1]])

    def test_no_such_court(self):
        self.assertEqual(behind(may(5, 1, 1), may(FAR, FAR, 0, [0], []), may(4, 1, 1)), [[-2], [-2], [1]])

    def test_findings_that_do_not_rise(self):
        self.refused(0, 1, 1, [1, 0])
        self.refused(0, 1, 1, [0, 0])
        self.refused(0, 1, 1, [0, 2, 1], [0])

    def test_findings_of_no_such_kind(self):
        self.refused(0, 1, 1, [6])
        self.refused(0, 1, 1, [0, FAR])
        self.refused(0, 1, 1, [6], [6])
        self.refused(0, 1, 1, list(range(15)), list(range(15)))
        self.assertEqual(behind(may(0, 1, 0, [5], [5])), [[1]])

    def test_a_reason_that_does_not_rise(self):
        self.refused(0, 1, 1, [0, 1, 2], [1, 0])
        self.refused(0, 1, 1, [0, 1, 2], [1, 1])
        self.refused(0, 1, 0, [3, 4, 5], [3, 5, 4])

    def test_a_reason_that_is_not_all_of_what_was_found(self):
        self.refused(0, 1, 1, [0, 1], [2])
        self.refused(0, 1, 1, [0, 1], [0, 2])
        self.refused(0, 1, 1, [], [0])
        self.refused(0, 1, 1, [0], [6])

    def test_a_reason_that_does_not_all_speak_for_the_side(self):
        self.refused(0, 1, 1, [0, 3], [3])
        self.refused(0, 1, 1, [0, 3], [0, 3])
        self.refused(0, 1, 0, [0, 3], [0])
        self.refused(0, 1, 0, [0, 3], [0, 3])

    def test_no_such_court_counts_first(self):
        self.assertEqual(behind(may(5, 1, 1, [1, 0]), may(5, 1, 1, [6]), may(5, 1, 1, [0], [1])), [[-2]] * 3)

    def test_nothing_is_changed(self):
        asked = [may(9, 1, 1), may(0, 1, 1, [9]), may(0, 7, 0, [0]), may(0, 500, 1, [0], [0])]
        self.assertEqual(
            behind(decide(0, 2, 1, [0], [0]), *asked, binds(0, 900), life(0), life(1), *asked, decide(0, 2, 1)),
            [[0, 1], [-2], [-1], [0, 0], [1], [1, 0], [1, 2], [-2], [-2], [-1], [0, 0], [1], [1, 1]])


if __name__ == "__main__":
    unittest.main()
