import unittest

from spelling import FAR, begins, binds, court, decide, stands, told

# Court 0 is above 1, which is above 2; court 3 is beside 1, below 0; court 4 is by itself.
LAND = [begins(1, 0), court(), court(1), court(2), court(1), court()]


def behind(*calls):
    return told(*LAND, *calls)[len(LAND):]


class Stands(unittest.TestCase):
    def test_before_on_and_behind_its_day(self):
        self.assertEqual(
            behind(decide(0, 10, 1), stands(0, 0), stands(0, 9), stands(0, 10), stands(0, 11), stands(0, FAR))[1:],
            [[0], [0], [1], [1], [1]])

    def test_one_taken_away_stands_on_the_days_before(self):
        days = [9, 10, 15, 19, 20, 21, 99999, 100000, FAR]
        answered = behind(decide(0, 10, 1), decide(0, 20, 0), *[stands(0, day) for day in days],
                          *[stands(1, day) for day in days])[2:]
        self.assertEqual(answered[:9], [[0], [1], [1], [1], [0], [0], [0], [0], [0]])
        self.assertEqual(answered[9:], [[0], [0], [0], [0], [1], [1], [1], [1], [1]])

    def test_one_taken_away_on_its_own_day(self):
        self.assertEqual(behind(decide(0, 10, 1), decide(0, 10, 0), stands(0, 9), stands(0, 10), stands(0, 11))[2:],
                         [[0], [0], [0]])

    def test_a_barred_one_on_no_day(self):
        self.assertEqual(behind(decide(0, 10, 1), decide(1, 20, 0), stands(1, 19), stands(1, 20), stands(1, FAR))[2:],
                         [[0], [0], [0]])

    def test_no_such_decision(self):
        self.assertEqual(behind(stands(0, 0), decide(0, 10, 1), stands(1, 10), stands(FAR, 10), stands(1, FAR)),
                         [[-2], [0, 1], [-2], [-2], [-2]])


class Binds(unittest.TestCase):
    def test_its_own_and_those_above_in_order(self):
        self.assertEqual(
            behind(decide(2, 1, 1), decide(0, 2, 1), decide(4, 2, 1), decide(3, 2, 1), decide(1, 3, 1), decide(2, 3, 1),
                   binds(0, 3), binds(1, 3), binds(2, 3), binds(3, 3), binds(4, 3))[6:],
            [[1, 1], [2, 1, 4], [4, 0, 1, 4, 5], [2, 1, 3], [1, 2]])

    def test_days_before_between_and_behind(self):
        days = [0, 9, 10, 15, 19, 20, 25, 30, FAR]
        answered = behind(decide(0, 10, 1), decide(1, 20, 1), decide(0, 30, 1, [], [], [1]),
                          *[binds(1, day) for day in days])[3:]
        self.assertEqual(answered, [[0], [0], [1, 0], [1, 0], [1, 0], [2, 0, 1], [2, 0, 1], [2, 0, 2], [2, 0, 2]])

    def test_what_was_taken_away_later_binds_on_the_days_before(self):
        days = [9, 10, 19, 20, FAR]
        answered = behind(decide(1, 10, 1), decide(0, 20, 0), *[binds(1, day) for day in days],
                          *[binds(0, day) for day in days])[2:]
        self.assertEqual(answered, [[0], [1, 0], [1, 0], [1, 1], [1, 1], [0], [0], [0], [1, 1], [1, 1]])

    def test_a_barred_one_binds_none(self):
        self.assertEqual(behind(decide(0, 1, 1), decide(1, 2, 0), binds(1, 2), binds(2, 2))[2:], [[1, 0], [1, 0]])

    def test_a_court_that_no_decision_binds(self):
        self.assertEqual(behind(binds(0, 0), decide(1, 1, 1), binds(0, FAR), binds(4, FAR)), [[0], [0, 1], [0], [0]])

    def test_no_such_court(self):
        self.assertEqual(behind(binds(5, 0), binds(FAR, FAR), binds(4, 0)), [[-2], [-2], [0]])

    def test_asking_changes_nothing(self):
        asked = [stands(0, 3), binds(1, 3), stands(9, 3), binds(9, 3)]
        self.assertEqual(behind(decide(0, 2, 1), *asked, *asked, decide(0, 2, 1)),
                         [[0, 1]] + [[1], [1, 0], [-2], [-2]] * 2 + [[1, 1]])


if __name__ == "__main__":
    unittest.main()
