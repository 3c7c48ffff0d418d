import unittest

from tests.lines import LARGEST, asked, begins, best, check, last, threads

TWELVE = [1, 2, 3, 4, 5, 6, 7, 8, 9, 1, 2, 3]
WRONG = [0, 10, LARGEST]


class Threads(unittest.TestCase):
    def test_how_many_are_to_be_wound(self):
        self.assertEqual(asked(threads(4)), [[1]])
        self.assertEqual(asked(threads(1, 9, 5)), [[3]])

    def test_behind_those_that_were(self):
        self.assertEqual(asked(threads(1, 2), threads(3), threads(4, 5)), [[2], [3], [5]])

    def test_an_empty_list(self):
        self.assertEqual(asked(threads()), [[0]])
        self.assertEqual(asked(threads(1, 2), threads(), threads(3)), [[2], [2], [3]])

    def test_new_threads_stand_behind(self):
        together = last(begins(4), threads(1, 2, 3, 3, 2, 1), best())
        apart = last(begins(4), threads(1, 2, 3), threads(3, 2, 1), best())
        self.assertEqual(apart, together)
        self.assertEqual(last(begins(2), threads(1), threads(2), threads(1, 2), check((2, 0), (2, 0))), [2])
        self.assertEqual(last(begins(2), threads(1), threads(2), threads(2, 1), check((2, 0), (2, 0))), [4])

    def test_exactly_twelve(self):
        self.assertEqual(asked(threads(*TWELVE)), [[12]])
        self.assertEqual(asked(threads(*TWELVE[:7]), threads(*TWELVE[7:]), threads()), [[7], [12], [12]])

    def test_more_than_twelve(self):
        self.assertEqual(asked(threads(*TWELVE, 4), threads()), [[-5], [0]])
        self.assertEqual(asked(threads(*[5] * 20), threads()), [[-5], [0]])
        self.assertEqual(asked(threads(*TWELVE), threads(1), threads()), [[12], [-5], [12]])
        self.assertEqual(asked(threads(1, 2), threads(*TWELVE[:11]), threads(3), threads()), [[2], [-5], [3], [3]])

    def test_colours_that_are_none(self):
        for colour in WRONG:
            self.assertEqual(asked(threads(colour)), [[-1]])
            self.assertEqual(asked(threads(1, 2, colour)), [[-1]])
            self.assertEqual(asked(threads(colour, 9)), [[-1]])

    def test_every_colour_from_one_to_nine(self):
        for colour in range(1, 10):
            self.assertEqual(asked(threads(colour)), [[1]])

    def test_a_wrong_colour_is_told_ahead_of_too_many(self):
        for colour in WRONG:
            self.assertEqual(asked(threads(*TWELVE, colour)), [[-1]])
            self.assertEqual(asked(threads(colour, *TWELVE)), [[-1]])
            self.assertEqual(asked(threads(*TWELVE), threads(colour)), [[12], [-1]])

    def test_all_is_as_it_was_after_each_refusal(self):
        for refused in [threads(colour, 1) for colour in WRONG] + [threads(*TWELVE), threads(*TWELVE, 0)]:
            found = asked(begins(3), threads(4, 5, 6), best(), refused, threads(), best(), check((3, 0)))
            self.assertLess(found[3][0], 0)
            self.assertEqual(len(found[3]), 1)
            self.assertEqual(found[4], [3])
            self.assertEqual(found[5], found[2])
            self.assertEqual(found[6], [3])


if __name__ == "__main__":
    unittest.main()
