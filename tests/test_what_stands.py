import unittest

from spelling import FAR, begins, binds, court, decide, stands, told

# Kinds 0, 1 speak for side 1, kinds 2, 3 for side 0.
# Court 0 is above 1, which is above 2, which is above 3; court 4 is beside 1, below 0; court 5 is by itself.
LAND = [begins(1, 1, 0, 0), court(), court(1), court(2), court(3), court(1), court()]


def behind(*calls):
    return told(*LAND, *calls)[len(LAND):]


class Gainsaying(unittest.TestCase):
    def taken(self, one, other):
        """Whether the other decision, told later in the same court, takes the first away."""
        answered = behind(decide(0, 1, *one), decide(0, 2, *other))
        self.assertIn(answered[1], ([1, 1], [1, 1, 0]))
        return answered[1] == [1, 1, 0]

    def test_each_reason_among_what_was_found_in_the_other(self):
        self.assertTrue(self.taken((1, [0, 2], [0]), (0, [0, 2], [2])))
        self.assertTrue(self.taken((0, [0, 2, 3], [2, 3]), (1, [0, 1, 2, 3], [0])))

    def test_like_sides(self):
        self.assertFalse(self.taken((1, [0, 2], [0]), (1, [0, 2], [0])))
        self.assertFalse(self.taken((0, [], []), (0, [], [])))

    def test_the_first_reason_is_not_among_the_others_findings(self):
        self.assertFalse(self.taken((1, [0, 2], [0]), (0, [1, 2], [2])))
        self.assertFalse(self.taken((1, [0, 1, 2], [0, 1]), (0, [0, 2], [2])))

    def test_the_others_reason_is_not_among_the_firsts_findings(self):
        self.assertFalse(self.taken((1, [0, 2], [0]), (0, [0, 2, 3], [3])))
        self.assertFalse(self.taken((1, [0, 2], [0]), (0, [0, 2, 3], [2, 3])))

    def test_findings_beyond_the_reasons_do_not_matter(self):
        self.assertTrue(self.taken((1, [0, 1, 2], [0]), (0, [0, 2, 3], [2])))

    def test_empty_reasons(self):
        self.assertTrue(self.taken((1, [], []), (0, [], [])))
        self.assertTrue(self.taken((1, [0], []), (0, [3], [])))
        self.assertTrue(self.taken((1, [0, 2], []), (0, [2], [2])))
        self.assertFalse(self.taken((1, [0], []), (0, [2], [2])))
        self.assertFalse(self.taken((1, [0], [0]), (0, [], [])))


class Barred(unittest.TestCase):
    def test_by_a_court_one_step_above(self):
        self.assertEqual(behind(decide(0, 1, 1, [0, 2], [0]), decide(1, 2, 0, [0, 2], [2]),
                                stands(1, 2), stands(1, FAR)),
                         [[0, 1], [1, 0], [0], [0]])

    def test_by_a_court_several_steps_above(self):
        self.assertEqual(behind(decide(0, 1, 1), decide(2, 2, 0), decide(3, 2, 0)), [[0, 1], [1, 0], [2, 0]])
        self.assertEqual(behind(decide(1, 1, 1), decide(3, 2, 0)), [[0, 1], [1, 0]])

    def test_it_changes_nothing(self):
        # The second would be taken away by gainsaying, the third by overruling.
        self.assertEqual(
            behind(decide(0, 1, 1, [0, 2], [0]), decide(1, 1, 1, [0, 2], [0]), decide(1, 1, 0, [3], [3]),
                   decide(1, 2, 0, [0, 2], [2], [1, 2]), binds(1, 2), stands(1, 2), stands(2, 2), stands(3, 2)),
            [[0, 1], [1, 1], [2, 1], [3, 0], [3, 0, 1, 2], [1], [1], [0]])

    def test_on_the_same_day(self):
        self.assertEqual(behind(decide(0, 1, 1), decide(1, 1, 0), stands(1, 1)), [[0, 1], [1, 0], [0]])

    def test_not_by_one_that_does_not_gainsay_it(self):
        self.assertEqual(behind(decide(0, 1, 1, [0], [0]), decide(1, 2, 0, [2], [2])), [[0, 1], [1, 1]])

    def test_not_by_its_own_court_or_one_below_or_beside(self):
        self.assertEqual(behind(decide(1, 1, 1), decide(1, 2, 0)), [[0, 1], [1, 1, 0]])
        self.assertEqual(behind(decide(2, 1, 1), decide(1, 2, 0)), [[0, 1], [1, 1, 0]])
        self.assertEqual(behind(decide(4, 1, 1), decide(1, 2, 0), decide(5, 2, 0)), [[0, 1], [1, 1], [2, 1]])

    def test_not_by_one_that_was_taken_away(self):
        self.assertEqual(behind(decide(0, 1, 1), decide(0, 2, 1, [0], [0], [0]), decide(1, 2, 0)),
                         [[0, 1], [1, 1, 0], [2, 1]])

    def test_not_by_one_that_was_barred(self):
        # The second never stands; though it's of a court above, it bars nothing.
        self.assertEqual(
            behind(decide(0, 1, 1, [0, 2], [0]), decide(1, 2, 0, [0, 2], [2]), decide(2, 3, 1, [0, 2], [0])),
            [[0, 1], [1, 0], [2, 1]])

    def test_one_barred_stays_so_though_what_barred_it_goes(self):
        self.assertEqual(
            behind(decide(0, 1, 1), decide(1, 2, 0), decide(0, 3, 0), stands(1, 3), stands(1, FAR), binds(1, 3)),
            [[0, 1], [1, 0], [2, 1, 0], [0], [0], [1, 2]])

    def test_a_lower_court_takes_nothing_from_a_higher_one(self):
        self.assertEqual(
            behind(decide(1, 1, 1, [0], [0]), decide(2, 2, 0, [0, 2], [2]), decide(2, 3, 0, [0], []), binds(1, 3)),
            [[0, 1], [1, 1], [2, 0], [1, 0]])


class TakesAway(unittest.TestCase):
    def test_by_overruling_what_does_not_gainsay_it(self):
        self.assertEqual(behind(decide(0, 1, 1), decide(0, 2, 1, [], [], [0]), stands(0, 1), stands(0, 2), binds(0, 2)),
                         [[0, 1], [1, 1, 0], [1], [0], [1, 1]])

    def test_what_is_not_overruled_stays(self):
        self.assertEqual(behind(decide(0, 1, 1), decide(0, 1, 1), decide(0, 2, 1, [], [], [1]), binds(0, 2)),
                         [[0, 1], [1, 1], [2, 1, 1], [2, 0, 2]])

    def test_by_overruling_in_courts_below(self):
        self.assertEqual(behind(decide(1, 1, 1), decide(0, 2, 1, [], [], [0])), [[0, 1], [1, 1, 0]])
        self.assertEqual(behind(decide(3, 1, 1), decide(0, 2, 1, [], [], [0])), [[0, 1], [1, 1, 0]])

    def test_by_gainsaying_in_its_own_court(self):
        self.assertEqual(behind(decide(2, 1, 0), decide(2, 2, 1), binds(2, 1), binds(2, 2)),
                         [[0, 1], [1, 1, 0], [1, 0], [1, 1]])

    def test_by_gainsaying_in_courts_below(self):
        self.assertEqual(behind(decide(1, 1, 0), decide(0, 2, 1)), [[0, 1], [1, 1, 0]])
        self.assertEqual(behind(decide(2, 1, 0), decide(0, 2, 1)), [[0, 1], [1, 1, 0]])
        self.assertEqual(behind(decide(3, 1, 0), decide(0, 2, 1)), [[0, 1], [1, 1, 0]])

    def test_what_is_both_overruled_and_gainsaid_once(self):
        self.assertEqual(behind(decide(0, 1, 0), decide(0, 2, 1, [], [], [0])), [[0, 1], [1, 1, 0]])

    def test_what_is_of_a_court_beside_stays(self):
        self.assertEqual(
            behind(decide(4, 1, 0), decide(5, 1, 0), decide(1, 2, 1), stands(0, 2), stands(1, 2)),
            [[0, 1], [1, 1], [2, 1], [1], [1]])

    def test_several_rising(self):
        self.assertEqual(
            behind(decide(3, 1, 0), decide(0, 1, 1), decide(4, 1, 1), decide(5, 1, 0), decide(1, 1, 1, [1], [1]),
                   decide(0, 2, 0, [2], [], [4])),
            [[0, 1], [1, 1, 0], [2, 1], [3, 1], [4, 1], [5, 1, 1, 2, 4]])
        self.assertEqual(
            behind(decide(3, 1, 0), decide(2, 1, 1, [0], [0]), decide(1, 1, 0), decide(0, 2, 1, [], [], [1])),
            [[0, 1], [1, 1], [2, 1], [3, 1, 0, 1, 2]])

    def test_what_was_taken_away_is_not_taken_again(self):
        self.assertEqual(behind(decide(0, 1, 1), decide(0, 2, 0), decide(0, 3, 1), decide(0, 4, 0)),
                         [[0, 1], [1, 1, 0], [2, 1, 1], [3, 1, 2]])

    def test_what_was_taken_away_does_not_come_back(self):
        self.assertEqual(behind(decide(0, 1, 1), decide(0, 2, 0), decide(0, 3, 1, [], [], [1]), binds(0, 3)),
                         [[0, 1], [1, 1, 0], [2, 1, 1], [1, 2]])

    def test_a_barred_one_is_not_taken(self):
        self.assertEqual(behind(decide(0, 1, 1), decide(1, 2, 0), decide(0, 3, 1, [0], [])),
                         [[0, 1], [1, 0], [2, 1]])

    def test_several_decisions_on_one_day(self):
        self.assertEqual(
            behind(decide(1, 7, 1), decide(1, 7, 0), decide(0, 7, 1), decide(1, 7, 0), decide(1, 7, 1),
                   stands(0, 7), stands(1, 7), stands(2, 7), stands(3, 7), stands(4, 7), binds(1, 6), binds(1, 7)),
            [[0, 1], [1, 1, 0], [2, 1, 1], [3, 0], [4, 1],
             [0], [0], [1], [0], [1], [0], [2, 2, 4]])


if __name__ == "__main__":
    unittest.main()
