import unittest

from tests.lines import LARGEST, asked, begins, best, bobbins_on, check, colours, last, rack, rack_answer, threads, wind


class Rack(unittest.TestCase):
    def test_at_the_beginning(self):
        self.assertEqual(asked(rack()), [[0, 1, 0]])

    def test_behind_begins(self):
        self.assertEqual(last(begins(1), rack()), [0, 1, 0])
        self.assertEqual(last(begins(2), rack()), [0, 2, 0, 0])
        self.assertEqual(last(begins(3), rack()), [0, 3, 0, 0, 0])
        self.assertEqual(last(begins(4), rack()), [0, 4, 0, 0, 0, 0])
        self.assertEqual(last(begins(4), begins(2), rack()), [0, 2, 0, 0])

    def test_threads_that_are_to_be_wound(self):
        self.assertEqual(last(threads(5, 5, 6), rack()), [3, 1, 0])
        self.assertEqual(last(begins(4), threads(*[9] * 12), rack()), [12, 4, 0, 0, 0, 0])
        self.assertEqual(last(begins(2), threads(1), threads(2, 3), rack()), [3, 2, 0, 0])

    def test_behind_winds(self):
        found = asked(begins(4), threads(1, 2, 3, 4, 5, 6, 7), wind(2, 0), rack(), wind(1, 0), rack(), wind(4, 1),
                      rack())
        self.assertEqual(found[3::2], [[5, 4, 1, 2, 0, 0], [4, 4, 3, 2, 0, 0], [0, 4, 7, 6, 5, 4]])

    def test_every_colour_on_every_peg(self):
        for pegs in (1, 2, 3, 4):
            for colour in range(1, 10):
                row = [1] * (pegs - 1) + [colour]
                self.assertEqual(last(*bobbins_on(pegs, *row), rack()), rack_answer(0, *row))

    def test_behind_refusals(self):
        start = [*bobbins_on(3, 1, 2), threads(3, 4)]
        refused = [begins(0), begins(5), begins(LARGEST), threads(0), threads(5, 10), threads(*[5] * 11), wind(0, 0),
                   wind(3, 0), wind(4, 1), wind(LARGEST, 0), check((3, 0)), check((1, 0))]
        for call in refused:
            found = asked(*start, call, rack())
            self.assertLess(found[-2][0], 0)
            self.assertEqual(found[-1], rack_answer(2, 1, 2, 0))
        self.assertEqual(last(*start, *refused, rack()), rack_answer(2, 1, 2, 0))

    def test_refusals_at_the_beginning(self):
        self.assertEqual(last(begins(9), threads(0), wind(1, 0), rack()), [0, 1, 0])

    def test_asking_changes_nothing(self):
        start = [*bobbins_on(3, 1, 2), threads(2, 1)]
        found = asked(*start, rack(), rack(), best(), colours(), check((2, 1)), rack())
        self.assertEqual([found[-6], found[-5], found[-1]], [rack_answer(2, 1, 2, 0)] * 3)


if __name__ == "__main__":
    unittest.main()
