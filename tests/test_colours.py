import itertools
import unittest

from tests.lines import asked, begins, best, bobbins_on, check, colours, colours_answer, last, rack, threads, wind


class Colours(unittest.TestCase):
    def test_no_threads(self):
        self.assertEqual(asked(colours()), [[0]])
        self.assertEqual(last(begins(3), colours()), [0])
        self.assertEqual(last(threads(), colours()), [0])
        self.assertEqual(last(threads(1, 2), begins(2), colours()), [0])

    def test_one_thread(self):
        for colour in range(1, 10):
            self.assertEqual(last(threads(colour), colours()), [1, 2, colour, 1])

    def test_neighbours_of_one_colour_are_one_run(self):
        self.assertEqual(last(threads(4, 4, 4), colours()), [1, 2, 4, 3])
        self.assertEqual(last(threads(4, 4, 5, 5, 5), colours()), [2, 2, 4, 2, 2, 5, 3])
        self.assertEqual(last(threads(*[9] * 12), colours()), [1, 2, 9, 12])

    def test_a_colour_that_comes_back_is_another_run(self):
        self.assertEqual(last(threads(4, 5, 4), colours()), [3, 2, 4, 2, 2, 5, 1])
        self.assertEqual(last(threads(*[1, 2] * 6), colours()), [12, 2, 1, 6, 2, 2, 6])

    def test_rising(self):
        self.assertEqual(last(threads(9, 3, 7, 1, 3), colours()), [5, 2, 1, 1, 2, 3, 2, 2, 7, 1, 2, 9, 1])
        self.assertEqual(last(threads(*range(9, 0, -1)), colours()),
                         colours_answer(9, *[(colour, 1) for colour in range(1, 10)]))

    def test_a_run_across_two_calls_of_threads(self):
        self.assertEqual(last(threads(1, 2), threads(2, 2, 1), colours()), [3, 2, 1, 2, 2, 2, 3])

    def test_bobbins_on_the_rack_do_not_count(self):
        self.assertEqual(last(*bobbins_on(3, 1, 2, 3), colours()), [0])
        self.assertEqual(last(*bobbins_on(3, 1, 2, 3), threads(3, 5), colours()), [2, 2, 3, 1, 2, 5, 1])

    def test_threads_that_are_wound_do_not_count(self):
        found = asked(begins(2), threads(6, 6, 6, 2, 6), colours(), wind(1, 0), colours(), wind(2, 0), colours(),
                      wind(1, 0), colours(), wind(1, 0), colours())
        self.assertEqual(found[2::2], [[3, 2, 2, 1, 2, 6, 4], [3, 2, 2, 1, 2, 6, 3], [2, 2, 2, 1, 2, 6, 1],
                                       [1, 2, 6, 1], [0]])

    def test_all_rows_of_three_colours(self):
        for count in range(7):
            for row in itertools.product((2, 5, 9), repeat=count):
                runs = len(list(itertools.groupby(row)))
                counted = [(colour, row.count(colour)) for colour in (2, 5, 9) if colour in row]
                self.assertEqual(last(threads(*row), colours()), colours_answer(runs, *counted))

    def test_refused_threads_do_not_count(self):
        found = asked(threads(1, 1, 2), threads(3, 0), colours(), threads(*[3] * 10), colours())
        self.assertEqual(found[1:], [[-1], [2, 2, 1, 2, 2, 2, 1], [-5], [2, 2, 1, 2, 2, 2, 1]])

    def test_asking_changes_nothing(self):
        found = asked(begins(2), threads(3, 1, 3), colours(), colours(), rack(), best(), check((1, 0), (2, 1)),
                      colours())
        self.assertEqual([found[3], found[-1]], [found[2]] * 2)
        self.assertEqual(found[4], [3, 2, 0, 0])


if __name__ == "__main__":
    unittest.main()
