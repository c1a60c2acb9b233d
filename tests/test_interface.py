import contextlib
import doctest
import io
import pathlib
import unittest

from citedcases.courts import answers
from spelling import FAR, begins, binds, court, decide, distinguish, forced, free, life, may, spelled, stands

CALLS = [
    begins(1, 0, 1), court(0), court(1),
    decide(1, 5, 1, [0, 1], [0]),
    decide(0, 7, 0, [0, 1], [1]),
    decide(1, 8, 1, [0, 1], [0]),
    decide(9, 9, 1), stands(0, 6), stands(0, 7), binds(1, 8), binds(0, 6), binds(2, 6),
    forced(1, 6, [0, 1]), forced(1, 7, [0, 1]), forced(1, 7, [0]), forced(2, 7),
    distinguish(0, [1]), distinguish(1, [1, 2]), distinguish(1, [0, 1]), distinguish(2, [1, 0]),
    may(1, 7, 1, [0, 1, 2], [2]), may(1, 7, 1, [0, 1], [0]), may(1, 7, 1, [0, 1], [1]),
    free(1, 7, 0, [0, 1]), free(1, 6, 1, [0, 1]), free(0, 6, 1, [0]), free(0, 6, 1, [3]),
    life(0), life(1), life(2), life(3),
    decide(0, 9, 0, [1], [1], [1]), life(1), forced(1, 9, [1]),
]
ANSWERS = [
    1, 0, 1, 0, 1, 1,
    2, 0, 1,
    3, 1, 1, 0,
    2, 2, 0,
    1, -2, 1, 1, 1, 0, 2, 1, 1, 1, 0, 1, -2,
    2, 1, 0, 2, 2, 1, 1, 0, 1, -2,
    2, 0, 0, 2, 1, 2, 1, 2, 1, -1,
    1, 1, 2, 0, 1, 1, -1,
    2, 1, 2, 1, -6, 1, 0, 1, -1,
    4, 2, 5, 7, 1, 2, 1, 7, 1, 0, 1, -2,
    3, 3, 1, 1, 4, 2, 7, 9, 3, 2, 2, 3,
]


class Interface(unittest.TestCase):
    def test_the_whole_list_of_answers(self):
        self.assertEqual(answers(spelled(CALLS)), ANSWERS)

    def test_the_list_as_the_document_spells_it(self):
        calls = [0, 2, 1, 0, 0,
                 1, 1, 0, 0,
                 2, 8, 0, 3, 1, 2, 0, 1, 1, 0, 0,
                 2, 7, 0, 4, 0, 1, 1, 0, 0, 0,
                 3, 2, 0, 3, 0,
                 4, 2, 0, 4, 0]
        self.assertEqual(answers(calls), [1, 0, 1, 0, 2, 0, 1, 3, 1, 1, 0, 1, 1, 2, 1, 1])

    def test_the_later_calls_as_the_document_spells_them(self):
        calls = [0, 4, 1, 0, 0, 1, 0,
                 1, 1, 0, 0,
                 2, 8, 0, 3, 1, 2, 0, 1, 1, 0, 0,
                 5, 4, 0, 3, 0, 1, 0,
                 5, 2, 0, 3, 0,
                 6, 3, 0, 0, 2, 0,
                 6, 1, 0, 0,
                 7, 7, 0, 3, 0, 2, 0, 1, 1, 0,
                 7, 4, 0, 3, 0, 0, 0,
                 8, 4, 0, 3, 1, 0, 0,
                 8, 3, 0, 3, 0, 0,
                 9, 1, 0, 0]
        self.assertEqual(
            answers(calls),
            [1, 0, 1, 0, 2, 0, 1, 2, 1, 0, 1, 0, 2, 1, 2, 2, 0, 0, 2, 0, 0, 1, 1, 2, 1, 2, 1, 0, 2, 1, 3])

    def test_the_example_of_the_readme(self):
        readme = pathlib.Path(__file__).resolve().parent.parent / "README.md"
        failed, tried = doctest.testfile(str(readme), module_relative=False, globs={"answers": answers})
        self.assertEqual((failed, tried), (0, 1))

    def test_one_call(self):
        self.assertEqual(answers([0, 0, 0]), [1, 0])
        self.assertEqual(answers([4, 2, 0, 0, 0]), [1, -2])
        self.assertEqual(answers([5, 2, 0, 0, 0]), [1, -2])
        self.assertEqual(answers([6, 1, 0, 0]), [1, -2])
        self.assertEqual(answers([7, 4, 0, 0, 0, 0, 0]), [1, -2])
        self.assertEqual(answers([8, 3, 0, 0, 0, 0]), [1, -2])
        self.assertEqual(answers([9, 1, 0, 0]), [1, -2])

    def test_at_the_beginning_there_is_nothing(self):
        self.assertEqual(answers(stands(0, 0)), [1, -2])
        self.assertEqual(answers(binds(0, 0)), [1, -2])
        self.assertEqual(answers(decide(0, 0, 0)), [1, -2])
        self.assertEqual(answers(court(0) + decide(0, 0, 1, [0])), [1, 0, 1, -1])
        self.assertEqual(answers(court(0) + decide(0, 0, 1)), [1, 0, 2, 0, 1])
        self.assertEqual(answers(court(0) + forced(0, FAR) + may(0, FAR, 1) + free(0, FAR, 0)),
                         [1, 0, 1, 0, 1, 1, 1, 0])
        self.assertEqual(answers(court(0) + forced(0, 0, [0]) + may(0, 0, 1, [0]) + free(0, 0, 0, [0])),
                         [1, 0, 1, -1, 1, -1, 1, -1])

    def test_sixty_calls(self):
        calls = [court(0)] + [decide(0, k, 1) for k in range(30)] + [binds(0, 99)] * 29
        bound = [31, 30, *range(30)]
        decided = [number for k in range(30) for number in (2, k, 1)]
        self.assertEqual(answers(spelled(calls)), [1, 0] + decided + bound * 29)

    def test_the_longest_calls(self):
        # Fifteen findings, a reason and overruled ones of fifteen, all of the greatest number.
        many = [FAR] * 15
        calls = [decide(0, FAR, 1, many, many, many), forced(0, FAR, many), distinguish(0, many),
                 may(0, FAR, 1, many, many), free(0, FAR, 1, many)]
        self.assertEqual(answers(spelled(calls)), [1, -2] * 5)
        land = [begins(*[1] * 10), court(), decide(0, 1, 1)]
        self.assertEqual(answers(spelled(land + calls)), [1, 0, 1, 0, 2, 0, 1] + [1, -1] * 5)

    def test_what_is_handed_in_is_not_changed(self):
        calls = spelled(CALLS)
        before = list(calls)
        answers(calls)
        self.assertEqual(calls, before)

    def test_what_is_handed_in_is_not_changed_for_a_while_either(self):
        class Unchangeable(list):
            def refuse(self, *args, **kwargs):
                raise AssertionError("the list of calls was changed")
            append = extend = insert = pop = remove = clear = sort = reverse = refuse
            __setitem__ = __delitem__ = __iadd__ = __imul__ = refuse
        self.assertEqual(answers(Unchangeable(spelled(CALLS))), ANSWERS)

    def test_nothing_is_kept_from_one_time_to_the_next(self):
        calls = spelled(CALLS)
        first = answers(calls)
        first.append(7)
        self.assertEqual(answers(calls), ANSWERS)
        self.assertEqual(answers(binds(0, 0)), [1, -2])
        self.assertEqual(answers(court(0) + decide(0, 0, 1, [0])), [1, 0, 1, -1])

    def test_whole_numbers_alone_are_given_back(self):
        given = answers(spelled(CALLS))
        self.assertIs(type(given), list)
        self.assertEqual({type(number) for number in given}, {int})

    def test_nothing_is_printed(self):
        out = io.StringIO()
        with contextlib.redirect_stdout(out), contextlib.redirect_stderr(out):
            answers(spelled(CALLS))
        self.assertEqual(out.getvalue(), "")


if __name__ == "__main__":
    unittest.main()
