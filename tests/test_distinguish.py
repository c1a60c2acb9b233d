import unittest

from spelling import FAR, begins, court, decide, distinguish, stands, told

# Kinds 0, 2, 4, 6 speak for side 1, kinds 1, 3, 5, 7 for side 0; court 0 is above 1.
LAND = [begins(1, 0, 1, 0, 1, 0, 1, 0), court(), court(1)]


def behind(*calls):
    return told(*LAND, *calls)[len(LAND):]


class Distinguish(unittest.TestCase):
    def test_one_of_the_reason_is_missing(self):
        self.assertEqual(behind(decide(0, 1, 1, [0, 1, 2], [0]), distinguish(0), distinguish(0, [1, 2]))[1:],
                         [[0, 0], [0, 0]])
        self.assertEqual(behind(decide(0, 1, 1, [0, 2, 4], [0, 2, 4]), distinguish(0, [0, 4]))[1:], [[0, 2]])

    def test_several_of_the_reason_are_missing_rising(self):
        self.assertEqual(
            behind(decide(0, 1, 1, [0, 1, 2, 4, 6], [0, 2, 4, 6]), distinguish(0), distinguish(0, [2]),
                   distinguish(0, [1, 2, 6]))[1:],
            [[0, 0, 2, 4, 6], [0, 0, 4, 6], [0, 0, 4]])

    def test_the_missing_ones_alone_where_something_speaks_for_the_other_side(self):
        self.assertEqual(behind(decide(0, 1, 1, [0, 1, 2], [0, 2]), distinguish(0, [2, 3, 5]))[1:], [[0, 0]])
        self.assertEqual(behind(decide(0, 1, 0, [1, 3], [1, 3]), distinguish(0, [0, 2]))[1:], [[0, 1, 3]])

    def test_what_is_missing_of_what_was_found_but_not_of_the_reason(self):
        self.assertEqual(behind(decide(0, 1, 1, [0, 1, 2], [0]), distinguish(0, [0]))[1:], [[2]])

    def test_one_that_speaks_for_the_other_side(self):
        self.assertEqual(behind(decide(0, 1, 1, [0, 1], [0]), distinguish(0, [0, 3]), distinguish(0, [0, 1, 7]))[1:],
                         [[1, 3], [1, 7]])
        self.assertEqual(behind(decide(0, 1, 0, [0, 1], [1]), distinguish(0, [1, 2]))[1:], [[1, 2]])

    def test_several_that_speak_for_the_other_side_rising(self):
        self.assertEqual(
            behind(decide(0, 1, 1, [0, 3], [0]), distinguish(0, [0, 1, 2, 3, 4, 5, 7]))[1:], [[1, 1, 5, 7]])
        self.assertEqual(
            behind(decide(0, 1, 0, [2, 3], [3]), distinguish(0, [0, 2, 3, 4, 5, 6]))[1:], [[1, 0, 4, 6]])

    def test_neither(self):
        self.assertEqual(
            behind(decide(0, 1, 1, [0, 1, 3], [0]), distinguish(0, [0, 1, 3]), distinguish(0, [0]),
                   distinguish(0, [0, 1, 2, 4, 6]))[1:],
            [[2], [2], [2]])
        self.assertEqual(behind(decide(0, 1, 0, [0, 1], [1]), distinguish(0, [0, 1, 3, 5, 7]))[1:], [[2]])

    def test_an_empty_reason(self):
        self.assertEqual(
            behind(decide(0, 1, 1, [1], []), distinguish(0), distinguish(0, [1, 2]), distinguish(0, [3, 5]))[1:],
            [[2], [2], [1, 3, 5]])

    def test_the_decision_that_is_asked_for(self):
        self.assertEqual(
            behind(decide(0, 1, 1, [0], [0]), decide(0, 1, 1, [2], [2]), decide(0, 1, 0, [3], [3]),
                   distinguish(0, [4]), distinguish(1, [4]), distinguish(2, [4]))[3:],
            [[0, 0], [0, 2], [0, 3]])

    def test_a_barred_one(self):
        self.assertEqual(
            behind(decide(0, 1, 1), decide(1, 2, 0, [0, 1], []), decide(1, 2, 0, [0, 1], [1]), stands(1, 2),
                   distinguish(1), distinguish(1, [0]), distinguish(1, [2]), distinguish(2))[2:],
            [[2, 1], [0], [2], [2], [1, 2], [0, 1]])

    def test_one_taken_away(self):
        self.assertEqual(
            behind(decide(0, 1, 1, [0, 1], [0]), decide(0, 2, 0, [0, 1], [1]), stands(0, 2),
                   distinguish(0), distinguish(0, [0, 1]), distinguish(0, [0, 3]))[2:],
            [[0], [0, 0], [2], [1, 3]])


class Refused(unittest.TestCase):
    def test_no_such_decision(self):
        self.assertEqual(behind(distinguish(0), decide(0, 1, 1), distinguish(1), distinguish(FAR, [0]), distinguish(0)),
                         [[-2], [0, 1], [-2], [-2], [2]])

    def test_findings_that_do_not_rise(self):
        self.assertEqual(behind(decide(0, 1, 1), distinguish(0, [1, 0]), distinguish(0, [2, 2]),
                                distinguish(0, [0, 2, 1]))[1:], [[-1]] * 3)

    def test_findings_of_no_such_kind(self):
        self.assertEqual(behind(decide(0, 1, 1), distinguish(0, [8]), distinguish(0, [0, FAR]), distinguish(0, [7]),
                                distinguish(0, list(range(15))))[1:], [[-1], [-1], [1, 7], [-1]])

    def test_no_such_decision_counts_first(self):
        self.assertEqual(behind(distinguish(0, [1, 0]), distinguish(0, [8])), [[-2], [-2]])

    def test_a_refused_decision_is_not_there(self):
        self.assertEqual(behind(decide(0, 1, 1, [9]), distinguish(0)), [[-1], [-2]])


if __name__ == "__main__":
    unittest.main()
