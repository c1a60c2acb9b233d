import unittest

from spelling import FAR, begins, court, decide, life, stands, told

# Kind 0 speaks for side 1, kind 1 for side 0; court 0 is above 1; court 2 is by itself.
LAND = [begins(1, 0), court(), court(1), court()]


def behind(*calls):
    return told(*LAND, *calls)[len(LAND):]


class Life(unittest.TestCase):
    def test_one_that_stands(self):
        self.assertEqual(behind(decide(0, 7, 1), decide(2, 9, 0), life(0), life(1))[2:], [[1, 7], [1, 9]])

    def test_days_at_the_edges(self):
        self.assertEqual(behind(decide(0, 0, 1), life(0), decide(0, 99999, 0), life(0), life(1))[1:],
                         [[1, 0], [1, 1, 0], [2, 0, 99999, 1], [1, 99999]])

    def test_one_that_was_barred(self):
        self.assertEqual(behind(decide(0, 7, 1), decide(1, 9, 0), life(1), life(0))[2:], [[0], [1, 7]])

    def test_one_that_was_barred_though_what_barred_it_goes(self):
        self.assertEqual(behind(decide(0, 7, 1), decide(1, 9, 0), decide(0, 12, 0), life(0), life(1), life(2))[3:],
                         [[2, 7, 12, 2], [0], [1, 12]])

    def test_one_that_was_gainsaid(self):
        self.assertEqual(behind(decide(0, 7, 1), decide(2, 8, 1), decide(0, 9, 0), life(0), life(1))[3:],
                         [[2, 7, 9, 2], [1, 8]])

    def test_one_that_was_overruled(self):
        self.assertEqual(behind(decide(1, 7, 1), decide(0, 9, 1, [], [], [0]), life(0))[2:], [[2, 7, 9, 1]])

    def test_one_that_was_taken_away_on_its_own_day(self):
        self.assertEqual(behind(decide(0, 7, 1), decide(0, 7, 0), stands(0, 7), life(0), life(1))[2:],
                         [[0], [2, 7, 7, 1], [1, 7]])
        self.assertEqual(behind(decide(0, 0, 1), decide(0, 0, 0), life(0))[2:], [[2, 0, 0, 1]])

    def test_what_was_taken_away_stays_with_the_first_that_took_it(self):
        self.assertEqual(
            behind(decide(0, 1, 1), decide(0, 2, 0), decide(0, 3, 1), decide(0, 4, 0),
                   *[life(k) for k in range(4)])[4:],
            [[2, 1, 2, 1], [2, 2, 3, 2], [2, 3, 4, 3], [1, 4]])

    def test_several_taken_away_by_one(self):
        self.assertEqual(
            behind(decide(1, 1, 1), decide(0, 2, 1), decide(0, 5, 0), life(0), life(1), life(2))[3:],
            [[2, 1, 5, 2], [2, 2, 5, 2], [1, 5]])

    def test_before_and_behind_it_is_taken_away(self):
        self.assertEqual(behind(decide(0, 1, 1), life(0), decide(0, 2, 0), life(0)),
                         [[0, 1], [1, 1], [1, 1, 0], [2, 1, 2, 1]])

    def test_no_such_decision(self):
        self.assertEqual(behind(life(0), decide(0, 1, 1), life(0), life(1), life(FAR)),
                         [[-2], [0, 1], [1, 1], [-2], [-2]])
        self.assertEqual(told(life(0)), [[-2]])

    def test_begins_once_more(self):
        self.assertEqual(behind(decide(0, 1, 1), begins(1), life(0))[1:], [[0], [-2]])

    def test_refused_decisions_take_nothing_away(self):
        self.assertEqual(
            behind(decide(0, 5, 1), decide(0, 4, 0), decide(0, 100000, 0), decide(0, 6, 0, [], [], [9]),
                   life(0), life(1)),
            [[0, 1], [-4], [-1], [-6], [1, 5], [-2]])


if __name__ == "__main__":
    unittest.main()
