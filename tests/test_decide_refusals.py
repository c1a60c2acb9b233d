import unittest

from spelling import FAR, begins, binds, court, decide, last, stands, told

# Kinds 0, 1, 2 speak for side 1, kinds 3, 4 for side 0; court 0 above 1 above 2; court 3 by itself.
LAND = [begins(1, 1, 1, 0, 0), court(), court(1), court(2), court()]


def behind(*calls):
    return told(*LAND, *calls)[len(LAND):]


class NoSuchCourt(unittest.TestCase):
    def test_no_such_court(self):
        self.assertEqual(behind(decide(4, 1, 1), decide(FAR, 1, 1), decide(3, 1, 1)), [[-2], [-2], [0, 1]])

    def test_counts_before_all_others(self):
        self.assertEqual(behind(decide(4, 100000, 1, [9, 9], [8], [7, 7])), [[-2]])
        self.assertEqual(behind(decide(0, 5, 1), decide(4, 4, 1)), [[0, 1], [-2]])
        self.assertEqual(behind(*[decide(0, 5, 1)] * 30, decide(4, 5, 1))[-1], [-2])
        self.assertEqual(behind(decide(4, 5, 1, [], [], [0])), [[-2]])


class WronglyTold(unittest.TestCase):
    def refused(self, *args):
        self.assertEqual(behind(decide(*args)), [[-1]])

    def test_findings_that_do_not_rise(self):
        self.refused(0, 1, 1, [1, 0])
        self.refused(0, 1, 1, [0, 0])
        self.refused(0, 1, 1, [0, 2, 1])
        self.refused(0, 1, 1, [0, 1, 1])

    def test_a_finding_of_no_such_kind(self):
        self.refused(0, 1, 1, [5])
        self.refused(0, 1, 1, [0, 1, FAR])
        self.refused(0, 1, 1, [5], [5])
        self.assertEqual(behind(decide(0, 1, 1, [4])), [[0, 1]])

    def test_a_reason_that_does_not_rise(self):
        self.refused(0, 1, 1, [0, 1, 2], [1, 0])
        self.refused(0, 1, 1, [0, 1, 2], [2, 2])
        self.refused(0, 1, 1, [0, 1, 2], [0, 2, 1])

    def test_a_reason_that_is_not_all_of_what_was_found(self):
        self.refused(0, 1, 1, [0, 1], [2])
        self.refused(0, 1, 1, [0, 1], [0, 2])
        self.refused(0, 1, 1, [], [0])
        self.refused(0, 1, 1, [0], [9])

    def test_a_reason_that_does_not_all_speak_for_the_side(self):
        self.refused(0, 1, 1, [0, 3], [3])
        self.refused(0, 1, 1, [0, 3], [0, 3])
        self.refused(0, 1, 0, [0, 3], [0])
        self.refused(0, 1, 0, [0, 3], [0, 3])

    def test_sound_ones(self):
        self.assertEqual(
            behind(decide(0, 1, 1, [0, 1, 3], [0, 1]), decide(0, 1, 0, [0, 3, 4], [4]),
                   decide(0, 1, 1, [3]), decide(0, 1, 1, [0, 1, 2, 3, 4], [1])),
            [[0, 1], [1, 1], [2, 1], [3, 1]])

    def test_an_empty_reason_and_empty_findings(self):
        self.assertEqual(behind(decide(0, 1, 1, [0, 3], []), decide(3, 1, 0, [], [])), [[0, 1], [1, 1]])

    def test_overruled_ones_that_do_not_rise(self):
        two = [decide(0, 1, 1), decide(0, 1, 1)]
        self.assertEqual(behind(*two, decide(0, 1, 1, [], [], [1, 0]))[-1], [-1])
        self.assertEqual(behind(*two, decide(0, 1, 1, [], [], [1, 1]))[-1], [-1])
        self.assertEqual(behind(*two, decide(0, 1, 1, [], [], [0, 1]))[-1], [2, 1, 0, 1])

    def test_the_last_day(self):
        self.assertEqual(behind(decide(0, 99999, 1), decide(0, 100000, 1), decide(0, FAR, 1)), [[0, 1], [-1], [-1]])

    def test_day_0(self):
        self.assertEqual(behind(decide(0, 0, 1), stands(0, 0)), [[0, 1], [1]])

    def test_fifteen_of_each(self):
        self.refused(0, 1, 1, list(range(15)), list(range(15)), list(range(15)))
        fifteen = list(range(15))
        self.assertEqual(behind(*[decide(0, 1, 1)] * 15, decide(0, 2, 1, [], [], fifteen))[-1], [15, 1] + fifteen)

    def test_counts_before_the_day_and_the_room_and_the_overruled_ones(self):
        self.assertEqual(behind(decide(0, 5, 1), decide(0, 4, 1, [9]))[-1], [-1])
        self.assertEqual(behind(decide(0, 5, 1), decide(0, 4, 1, [], [], [1, 0]))[-1], [-1])
        self.assertEqual(behind(*[decide(0, 5, 1)] * 30, decide(0, 5, 1, [0], [1]))[-1], [-1])
        self.assertEqual(behind(*[decide(0, 5, 1)] * 30, decide(0, 100000, 1))[-1], [-1])
        self.assertEqual(behind(decide(0, 5, 1, [1, 0], [], [7])), [[-1]])
        self.assertEqual(behind(decide(0, 5, 1, [], [], [7, 7])), [[-1]])
        self.assertEqual(behind(decide(0, 100000, 1, [], [], [7])), [[-1]])


class TooEarly(unittest.TestCase):
    def test_before_the_last_one_and_on_its_day(self):
        self.assertEqual(behind(decide(0, 5, 1), decide(0, 4, 1), decide(0, 5, 1), decide(0, 6, 1), decide(3, 5, 1)),
                         [[0, 1], [-4], [1, 1], [2, 1], [-4]])

    def test_the_day_of_a_barred_one_counts(self):
        self.assertEqual(behind(decide(0, 5, 1), decide(1, 8, 0), decide(0, 7, 1), decide(0, 8, 1)),
                         [[0, 1], [1, 0], [-4], [2, 1]])

    def test_counts_before_the_room_and_the_overruled_ones(self):
        self.assertEqual(behind(*[decide(0, 5, 1)] * 30, decide(0, 4, 1))[-1], [-4])
        self.assertEqual(behind(decide(0, 5, 1), decide(0, 4, 1, [], [], [7]))[-1], [-4])


class NoRoom(unittest.TestCase):
    def test_the_thirtieth_and_the_thirty_first(self):
        answered = behind(*[decide(0, 5, 1)] * 29, decide(0, 6, 1), decide(0, 6, 1), decide(0, 7, 1))
        self.assertEqual(answered[28:], [[28, 1], [29, 1], [-5], [-5]])

    def test_barred_ones_and_those_taken_away_take_room(self):
        calls = [decide(0, 1, 1)] + [decide(1, 2, 0)] * 28
        answered = behind(*calls, decide(0, 3, 0), decide(0, 3, 0))
        self.assertEqual(answered[28:], [[28, 0], [29, 1, 0], [-5]])

    def test_counts_before_the_overruled_ones(self):
        self.assertEqual(behind(*[decide(0, 5, 1)] * 30, decide(0, 5, 1, [], [], [99]))[-1], [-5])
        self.assertEqual(behind(*[decide(0, 5, 1)] * 30, decide(3, 5, 1, [], [], [0]))[-1], [-5])


class NotToOverrule(unittest.TestCase):
    def test_one_that_is_not_there(self):
        self.assertEqual(behind(decide(0, 1, 1, [], [], [0])), [[-6]])
        self.assertEqual(behind(decide(0, 1, 1), decide(0, 1, 1, [], [], [0, 1]), decide(0, 1, 1, [], [], [FAR])),
                         [[0, 1], [-6], [-6]])

    def test_one_that_was_taken_away(self):
        self.assertEqual(
            behind(decide(0, 1, 1), decide(0, 2, 0), decide(0, 2, 0, [], [], [0]), decide(0, 3, 0, [], [], [0, 1])),
            [[0, 1], [1, 1, 0], [-6], [-6]])

    def test_one_that_is_barred(self):
        self.assertEqual(behind(decide(0, 1, 1), decide(1, 2, 0), decide(1, 3, 1, [], [], [1])),
                         [[0, 1], [1, 0], [-6]])

    def test_one_of_a_court_above(self):
        self.assertEqual(
            behind(decide(0, 1, 1), decide(1, 2, 1, [], [], [0]), decide(2, 2, 1, [], [], [0])),
            [[0, 1], [-6], [-6]])

    def test_one_of_a_court_beside(self):
        self.assertEqual(
            behind(decide(3, 1, 1), decide(0, 2, 1, [], [], [0]), decide(2, 2, 1, [], [], [0])),
            [[0, 1], [-6], [-6]])

    def test_one_sound_and_one_not(self):
        self.assertEqual(
            behind(decide(0, 1, 1), decide(3, 1, 1), decide(0, 2, 1, [], [], [0, 1]), binds(0, 2), binds(3, 2)),
            [[0, 1], [1, 1], [-6], [1, 0], [1, 1]])

    def test_refused_though_it_would_be_barred(self):
        self.assertEqual(behind(decide(0, 1, 1), decide(1, 2, 0, [], [], [0])), [[0, 1], [-6]])

    def test_own_court_and_courts_below(self):
        self.assertEqual(
            behind(decide(0, 1, 1), decide(1, 1, 1), decide(2, 1, 1), decide(0, 1, 1, [], [], [0, 1, 2])),
            [[0, 1], [1, 1], [2, 1], [3, 1, 0, 1, 2]])


class ARefusalChangesNothing(unittest.TestCase):
    def test_no_refused_decision_leaves_a_trace(self):
        refused = [decide(9, 90, 0), decide(0, 90, 0, [9]), decide(0, 4, 0), decide(0, 90, 0, [], [], [1])]
        answered = behind(decide(0, 5, 1), *refused, stands(0, 90), stands(1, 90), binds(0, 90), decide(0, 6, 1))
        self.assertEqual(answered, [[0, 1], [-2], [-1], [-4], [-6], [1], [-2], [1, 0], [1, 1]])

    def test_nor_one_that_finds_no_room(self):
        full = [decide(0, 5, 1)] * 30
        answered = behind(*full, decide(0, 9, 0), binds(0, 9), stands(30, 9), decide(0, 8, 1, [], [], [0]))
        self.assertEqual(answered[30:], [[-5], [30, *range(30)], [-2], [-5]])
        self.assertEqual(last(*LAND, *full, decide(0, 9, 0), decide(0, 5, 1)), [-5])


if __name__ == "__main__":
    unittest.main()
