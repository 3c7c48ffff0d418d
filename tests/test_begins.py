import unittest

from tests.lines import LARGEST, asked, begins, best, best_answer, bobbins_on, check, last, rack, rack_answer, threads

REFUSED = [0, 5, LARGEST]


class Begins(unittest.TestCase):
    def test_one_to_four_pegs_are_taken(self):
        for pegs in (1, 2, 3, 4):
            self.assertEqual(asked(begins(pegs)), [[0]])

    def test_other_numbers_of_pegs_are_refused(self):
        for pegs in REFUSED:
            self.assertEqual(asked(begins(pegs)), [[-1]])

    def test_the_rack_has_as_many_pegs_as_told(self):
        for pegs in (1, 2, 3, 4):
            start = [begins(pegs), threads(1, 2, 3, 4, 5)]
            self.assertEqual(last(*start, check((pegs, 0), (5, 0))), [-6, 1, 1])
            self.assertEqual(last(*start, check((pegs + 1, 0))), [-6, 1, 0])

    def test_a_line_starts_with_one_peg_and_no_threads(self):
        self.assertEqual(last(threads()), [0])
        self.assertEqual(last(threads(3)), [1])
        self.assertEqual(last(threads(3, 4), check((2, 0))), [-6, 1, 0])
        self.assertEqual(last(threads(3, 4), check((1, 0), (1, 0))), [2])

    def test_all_is_as_it_was_after_a_refusal(self):
        for pegs in REFUSED:
            found = asked(begins(3), threads(1, 2, 3), best(), begins(pegs), threads(), best(), check((3, 0)))
            self.assertEqual(found[3], [-1])
            self.assertEqual(found[4], [3])
            self.assertEqual(found[5], found[2])
            self.assertEqual(found[6], [3])

    def test_a_refusal_at_the_beginning_leaves_one_peg(self):
        self.assertEqual(asked(begins(5), threads(1, 2), check((2, 0)))[2], [-6, 1, 0])

    def test_there_are_no_threads_after_it(self):
        found = asked(begins(2), threads(1, 2, 3), begins(4), threads(), best(), check())
        self.assertEqual(found[2:], [[0], [0], best_answer(0, 0, 1, [], []), [0]])

    def test_fewer_pegs_than_before(self):
        found = asked(begins(4), begins(1), threads(7, 7), check((2, 0)), check((1, 0), (1, 0)))
        self.assertEqual(found[3:], [[-6, 1, 0], [1]])

    def test_the_rack_is_empty_after_it(self):
        for pegs in (1, 2, 3, 4):
            found = asked(*bobbins_on(2, 1, 2), threads(3), begins(pegs), rack())
            self.assertEqual(found[-2:], [[0], rack_answer(0, *[0] * pegs)])

    def test_bobbins_stay_on_the_rack_after_a_refusal(self):
        for pegs in REFUSED:
            found = asked(*bobbins_on(2, 1, 2), threads(3), begins(pegs), rack())
            self.assertEqual(found[-2:], [[-1], rack_answer(1, 1, 2)])


if __name__ == "__main__":
    unittest.main()
