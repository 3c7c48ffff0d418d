import itertools
import random
import unittest

from tests.lines import (asked, begins, best, best_answer, bobbins_on, check, last, rack, rack_answer, searched_answer,
                         threads)


class Best(unittest.TestCase):
    def test_no_threads(self):
        nothing = best_answer(0, 0, 1, [], [])
        self.assertEqual(nothing, [0, 2, 0, 1, 0, 0])
        self.assertEqual(last(best()), nothing)
        for pegs in (1, 2, 3, 4):
            self.assertEqual(last(begins(pegs), best()), nothing)
        self.assertEqual(last(begins(2), threads(), best()), nothing)

    def test_one_thread(self):
        for pegs in (1, 2, 3, 4):
            self.assertEqual(last(begins(pegs), threads(9), best()), best_answer(1, 1, 1, [1], [0]))

    def test_one_peg(self):
        self.assertEqual(last(threads(1, 1, 2), best()), best_answer(2, 3, 1, [1, 1, 1], [0, 0, 0]))
        colours = [1, 2, 2, 3, 1, 1, 1, 9, 9, 8, 8, 9]
        self.assertEqual(last(begins(1), threads(*colours), best()), best_answer(7, 12, 1, [1] * 12, [0] * 12))

    def test_four_pegs_and_twelve_threads(self):
        colours = [1, 2, 3, 4, 4, 3, 2, 1, 1, 2, 3, 4]
        self.assertEqual(last(begins(4), threads(*colours), best()), best_answer(4, 3, 2, [4, 4, 4], [0, 1, 0]))

    def test_turning_saves_bobbins(self):
        found = asked(begins(2), threads(1, 2, 2, 1), best(), check((2, 0), (2, 0)), check((2, 0), (2, 1)))
        self.assertEqual(found[2:], [best_answer(2, 2, 2, [2, 2], [0, 1]), [4], [2]])

    def test_fewer_bobbins_ahead_of_fewer_sections(self):
        self.assertEqual(last(begins(4), threads(6, 6, 6), best()), best_answer(1, 3, 1, [1] * 3, [0] * 3))

    def test_as_good_by_length_and_straight(self):
        self.assertEqual(last(begins(2), threads(1, 2, 3), best()), best_answer(3, 2, 4, [1, 2], [0, 0]))

    def test_the_shorter_first_section_is_earlier_though_turned_later(self):
        found = asked(begins(3), threads(1, 2, 1), best(), check((1, 0), (2, 1)), check((2, 0), (1, 0)))
        self.assertEqual(found[2:], [best_answer(2, 2, 2, [1, 2], [0, 1]), [2], [2]])

    def test_the_straight_one_is_earlier(self):
        self.assertEqual(last(begins(4), threads(1, 2, 3, 4), best()), best_answer(4, 1, 2, [4], [0]))

    def test_straight_and_turned_are_two_plans_though_they_wind_the_same(self):
        start = bobbins_on(3, 1, 2, 1)
        self.assertEqual(last(*start, threads(1, 2, 1), best()), best_answer(0, 1, 2, [3], [0]))

    def test_a_single_thread_is_never_turned(self):
        for colours in itertools.product((1, 2), repeat=5):
            answer = last(begins(3), threads(*colours), best())
            sections = answer[2]
            lengths = answer[5:5 + sections]
            turns = answer[6 + sections:]
            self.assertNotIn((1, 1), list(zip(lengths, turns)))

    def test_asked_twice_it_answers_the_same(self):
        found = asked(begins(3), threads(1, 2, 3, 1), check((3, 0), (1, 0)), best(), best(), threads(),
                      check((3, 0), (1, 0)))
        self.assertEqual(found[3], found[4])
        self.assertEqual(found[5], [4])
        self.assertEqual(found[6], found[2])
        self.assertEqual(found[6], [3])

    def test_a_rack_with_bobbins_is_used_and_stays(self):
        start = [*bobbins_on(3, 2, 1, 5), threads(1, 2, 5)]
        found = asked(*start, rack(), best(), best(), rack())
        self.assertEqual(found[-3], best_answer(1, 2, 1, [2, 1], [1, 0]))
        self.assertEqual(found[-3], searched_answer((2, 1, 5), (1, 2, 5)))
        self.assertEqual(found[-2], found[-3])
        self.assertEqual([found[-4], found[-1]], [rack_answer(3, 2, 1, 5)] * 2)

    def test_asked_sixty_times(self):
        colours = [1, 2, 3, 4, 5, 6, 7, 8, 9, 1, 2, 3]
        found = asked(begins(4), threads(*colours), *[best()] * 58)
        self.assertEqual(found[2:], [searched_answer((0,) * 4, colours)] * 58)


class AgainstAPlainSearch(unittest.TestCase):
    def assert_searched(self, colours, pegs):
        found = last(begins(pegs), threads(*colours), best())
        self.assertEqual(found, searched_answer((0,) * pegs, colours), (colours, pegs))

    def test_all_warps_of_three_colours(self):
        for pegs in (1, 2, 3, 4):
            for count in range(6):
                for colours in itertools.product((1, 2, 3), repeat=count):
                    self.assert_searched(colours, pegs)

    def test_longer_warps(self):
        chance = random.Random(7)
        for turn in range(120):
            colours = [chance.randint(1, 2 + turn % 4) for thread in range(chance.randint(6, 8))]
            self.assert_searched(colours, 1 + turn % 4)

    def test_twelve_threads(self):
        chance = random.Random(8)
        for most in (2, 3, 4, 5, 9):
            self.assert_searched([chance.randint(1, most) for thread in range(12)], 4)
            self.assert_searched([chance.randint(1, most) for thread in range(12)], 3)

    def test_from_racks_with_bobbins(self):
        chance = random.Random(9)
        for turn in range(300):
            pegs = 1 + turn % 4
            first = [chance.randint(1, 3) for peg in range(chance.randint(0, pegs))]
            row = [chance.randint(1, 3) for thread in range(chance.randint(0, 7))]
            found = last(*bobbins_on(pegs, *first), threads(*row), best())
            self.assertEqual(found, searched_answer(first + [0] * (pegs - len(first)), row), (pegs, first, row))

    def test_check_agrees_with_best(self):
        chance = random.Random(10)
        for turn in range(60):
            colours = [chance.randint(1, 4) for thread in range(12)]
            start = [begins(1 + turn % 4), threads(*colours)]
            answer = last(*start, best())
            count = answer[2]
            plan = list(zip(answer[5:5 + count], answer[6 + count:]))
            self.assertEqual(last(*start, check(*plan)), [answer[0]])


if __name__ == "__main__":
    unittest.main()
