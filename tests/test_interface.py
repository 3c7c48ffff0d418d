import contextlib
import io
import unittest

from tests.lines import begins, best, check, colours, line, rack, threads, wind
from warpwinding.rack import answers


class Unchanging(list):
    """A list that fails as soon as somebody tries to change it."""

    def refuse(self, *given, **named):
        raise AssertionError("what is handed in was changed")

    append = extend = insert = remove = pop = clear = sort = reverse = refuse
    __setitem__ = __delitem__ = __iadd__ = __imul__ = refuse


WHOLE = line(begins(2), threads(1, 2, 2, 1), best(), check((2, 0), (2, 1)), check((2, 0)), check((3, 0)),
             begins(9), threads(0), threads(*[1] * 20), threads(), check(), rack(), colours(), wind(3, 0), wind(2, 1),
             rack(), colours(), best(), wind(2, 0), rack(), colours())
WHOLE_ANSWERS = [
    1, 0,
    1, 4,
    10, 2, 2, 2, 2, 2, 2, 2, 2, 0, 1,
    1, 2,
    3, -4, 1, 2,
    3, -6, 1, 0,
    1, -1,
    1, -1,
    1, -5,
    1, 4,
    3, -4, 1, 4,
    4, 4, 2, 0, 0,
    7, 3, 2, 1, 2, 2, 2, 2,
    1, -6,
    1, 2,
    4, 2, 2, 2, 1,
    7, 2, 2, 1, 1, 2, 2, 1,
    8, 0, 2, 1, 1, 1, 2, 1, 0,
    1, 0,
    4, 0, 2, 2, 1,
    1, 0,
]


class Interface(unittest.TestCase):
    def test_single_calls(self):
        self.assertEqual(answers([0, 4]), [1, 0])
        self.assertEqual(answers([0, 0]), [1, -1])
        self.assertEqual(answers([1, 0]), [1, 0])
        self.assertEqual(answers([1, 2, 3, 4]), [1, 2])
        self.assertEqual(answers([2]), [6, 0, 2, 0, 1, 0, 0])
        self.assertEqual(answers([3, 0]), [1, 0])
        self.assertEqual(answers([3, 2, 1, 0]), [3, -6, 1, 0])
        self.assertEqual(answers([4, 1, 0]), [1, -6])
        self.assertEqual(answers([5]), [3, 0, 1, 0])
        self.assertEqual(answers([6]), [1, 0])

    def test_several_calls_of_one_line(self):
        self.assertEqual(answers(list(WHOLE)), WHOLE_ANSWERS)

    def test_sixty_calls(self):
        self.assertEqual(answers([1, 0] * 60), [1, 0] * 60)
        self.assertEqual(answers([2] * 60), [6, 0, 2, 0, 1, 0, 0] * 60)
        self.assertEqual(answers([4, 1, 1] * 60), [1, -6] * 60)
        self.assertEqual(answers([5] * 60), [3, 0, 1, 0] * 60)
        self.assertEqual(answers([6] * 60), [1, 0] * 60)

    def test_numbers_of_a_call_are_not_taken_for_calls(self):
        self.assertEqual(answers([1, 3, 2, 2, 2, 1, 0]), [1, 3, 1, 3])
        self.assertEqual(answers([3, 4, 2, 0, 2, 1, 1, 0]), [3, -6, 1, 0, 1, 0])
        self.assertEqual(answers([1, 2, 5, 6, 4, 1, 1, 4, 5, 0, 6]), [1, 2, 1, 1, 1, -6, 4, 1, 2, 6, 1])

    def test_what_is_handed_in_stays_the_same(self):
        handed = list(WHOLE)
        answers(handed)
        self.assertEqual(handed, WHOLE)

    def test_what_is_handed_in_is_not_changed_for_a_while_either(self):
        self.assertEqual(answers(Unchanging(WHOLE)), WHOLE_ANSWERS)

    def test_lines_know_nothing_of_each_other(self):
        answers(line(begins(4), threads(1, 2, 3), wind(2, 0)))
        self.assertEqual(answers(line(rack(), colours(), wind(1, 0))), [3, 0, 1, 0, 1, 0, 1, -6])
        self.assertEqual(answers(line(threads(), check(), best())), [1, 0, 1, 0, 6, 0, 2, 0, 1, 0, 0])
        self.assertEqual(answers(line(threads(5, 6), check((2, 0)))), [1, 2, 3, -6, 1, 0])
        self.assertEqual(answers(WHOLE), answers(WHOLE))

    def test_a_list_given_back_is_not_kept(self):
        answers(WHOLE).clear()
        self.assertEqual(answers(WHOLE), WHOLE_ANSWERS)

    def test_nothing_is_printed(self):
        with contextlib.redirect_stdout(io.StringIO()) as out, contextlib.redirect_stderr(io.StringIO()) as err:
            answers(WHOLE)
        self.assertEqual(out.getvalue() + err.getvalue(), "")

    def test_whole_numbers_alone(self):
        given = answers(WHOLE)
        self.assertIs(type(given), list)
        self.assertEqual({type(number) for number in given}, {int})


if __name__ == "__main__":
    unittest.main()
