import unittest

from spelling import FAR, begins, binds, court, decide, last, stands, told


class Begins(unittest.TestCase):
    def test_ordinary(self):
        self.assertEqual(told(begins(1, 0, 0)), [[0]])

    def test_no_kinds(self):
        self.assertEqual(told(begins(), court(), decide(0, 1, 1), decide(0, 1, 1, [0])),
                         [[0], [0], [0, 1], [-1]])

    def test_ten_kinds(self):
        ten = list(range(10))
        self.assertEqual(told(begins(*[1] * 10), court(), decide(0, 1, 1, ten, ten)), [[0], [0], [0, 1]])

    def test_eleven_and_twenty_kinds(self):
        self.assertEqual(told(begins(*[1] * 11), begins(*[0] * 20)), [[-1], [-1]])

    def test_a_refusal_changes_nothing(self):
        self.assertEqual(
            told(begins(1, 0), court(), decide(0, 3, 1, [0], [0]), begins(*[0] * 11),
                 binds(0, 3), stands(0, 3), court(1), decide(1, 3, 1, [0, 1], [0]), decide(0, 3, 1, [2])),
            [[0], [0], [0, 1], [-1], [1, 0], [1], [1], [1, 1], [-1]])

    def test_once_more_behind_courts_and_decisions(self):
        self.assertEqual(
            told(begins(1, 0), court(), court(1), decide(0, 500, 1, [0], [0]), begins(0),
                 stands(0, 500), binds(0, 500), court(1), court(), decide(1, 0, 1),
                 decide(0, 2, 0, [0], [0]), decide(0, 2, 0, [1]), stands(0, 2), binds(0, 2)),
            [[0], [0], [1], [0, 1], [0],
             [-2], [-2], [-2], [0], [-2],
             [0, 1], [-1], [1], [1, 0]])

    def test_once_more_makes_room(self):
        full = [court()] * 8 + [decide(0, 1, 1)] * 30
        self.assertEqual(told(*full, begins(), court(), decide(0, 0, 1))[-3:], [[0], [0], [0, 1]])


class Court(unittest.TestCase):
    def test_none_above_and_one_above(self):
        self.assertEqual(told(court(0), court(0), court(1), court(2), court(3)), [[0], [1], [2], [3], [4]])

    def test_one_above_that_is_not_there(self):
        self.assertEqual(told(court(1)), [[-2]])
        self.assertEqual(told(court(0), court(2), court(FAR), court(1)), [[0], [-2], [-2], [1]])

    def test_which_court_is_above(self):
        self.assertEqual(
            told(court(0), court(0), court(2), decide(0, 1, 1), decide(1, 1, 1), binds(2, 1)),
            [[0], [1], [2], [0, 1], [1, 1], [1, 1]])

    def test_the_eighth_and_the_ninth(self):
        self.assertEqual(told(*[court()] * 7, court(7), court(), court(8))[6:], [[6], [7], [-5], [-5]])

    def test_none_such_above_counts_before_no_room(self):
        self.assertEqual(told(*[court()] * 8, court(9), court(8), court(FAR))[8:], [[-2], [-5], [-2]])

    def test_a_refusal_changes_nothing(self):
        self.assertEqual(told(court(), court(5), binds(1, 0), court(2)), [[0], [-2], [-2], [-2]])
        self.assertEqual(last(*[court()] * 9, binds(8, 0)), [-2])


if __name__ == "__main__":
    unittest.main()
