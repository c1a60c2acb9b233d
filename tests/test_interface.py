import contextlib
import io
import unittest

from citedcases.courts import answers
from spelling import begins, binds, court, decide, spelled, stands

CALLS = [
    begins(1, 0, 1), court(0), court(1),
    decide(1, 5, 1, [0, 1], [0]),
    decide(0, 7, 0, [0, 1], [1]),
    decide(1, 8, 1, [0, 1], [0]),
    decide(9, 9, 1), stands(0, 6), stands(0, 7), binds(1, 8), binds(0, 6), binds(2, 6),
]
ANSWERS = [
    1, 0, 1, 0, 1, 1,
    2, 0, 1,
    3, 1, 1, 0,
    2, 2, 0,
    1, -2, 1, 1, 1, 0, 2, 1, 1, 1, 0, 1, -2,
]


class Interface(unittest.TestCase):
    def test_the_whole_list_of_answers(self):
        self.assertEqual(answers(spelled(CALLS)), ANSWERS)

    def test_the_list_as_the_document_spells_it(self):
        calls = [0, 2, 1, 0, 0,
                 1, 1, 0, 0,
                 2, 8, 0, 3, 1, 2, 0, 1, 1, 0, 0,
                 2, 7, 0, 4, 0, 1, 1, 0, 0, 0,
                 3, 2, 0, 3, 0,
                 4, 2, 0, 4, 0]
        self.assertEqual(answers(calls), [1, 0, 1, 0, 2, 0, 1, 3, 1, 1, 0, 1, 1, 2, 1, 1])

    def test_one_call(self):
        self.assertEqual(answers([0, 0, 0]), [1, 0])
        self.assertEqual(answers([4, 2, 0, 0, 0]), [1, -2])

    def test_at_the_beginning_there_is_nothing(self):
        self.assertEqual(answers(stands(0, 0)), [1, -2])
        self.assertEqual(answers(binds(0, 0)), [1, -2])
        self.assertEqual(answers(decide(0, 0, 0)), [1, -2])
        self.assertEqual(answers(court(0) + decide(0, 0, 1, [0])), [1, 0, 1, -1])
        self.assertEqual(answers(court(0) + decide(0, 0, 1)), [1, 0, 2, 0, 1])

    def test_sixty_calls(self):
        calls = [court(0)] + [decide(0, k, 1) for k in range(30)] + [binds(0, 99)] * 29
        bound = [31, 30, *range(30)]
        decided = [number for k in range(30) for number in (2, k, 1)]
        self.assertEqual(answers(spelled(calls)), [1, 0] + decided + bound * 29)

    def test_what_is_handed_in_is_not_changed(self):
        calls = spelled(CALLS)
        before = list(calls)
        answers(calls)
        self.assertEqual(calls, before)

    def test_what_is_handed_in_is_not_changed_for_a_while_either(self):
        class Unchangeable(list):
            def refuse(self, *args, **kwargs):
                raise AssertionError("the list of calls was changed")
            append = extend = insert = pop = remove = clear = sort = reverse = refuse
            __setitem__ = __delitem__ = __iadd__ = __imul__ = refuse
        self.assertEqual(answers(Unchangeable(spelled(CALLS))), ANSWERS)

    def test_nothing_is_kept_from_one_time_to_the_next(self):
        calls = spelled(CALLS)
        first = answers(calls)
        first.append(7)
        self.assertEqual(answers(calls), ANSWERS)
        self.assertEqual(answers(binds(0, 0)), [1, -2])
        self.assertEqual(answers(court(0) + decide(0, 0, 1, [0])), [1, 0, 1, -1])

    def test_whole_numbers_alone_are_given_back(self):
        given = answers(spelled(CALLS))
        self.assertIs(type(given), list)
        self.assertEqual({type(number) for number in given}, {int})

    def test_nothing_is_printed(self):
        out = io.StringIO()
        with contextlib.redirect_stdout(out), contextlib.redirect_stderr(out):
            answers(spelled(CALLS))
        self.assertEqual(out.getvalue(), "")


if __name__ == "__main__":
    unittest.main()
