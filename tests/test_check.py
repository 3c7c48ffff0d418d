import random
import unittest

from tests.lines import (LARGEST, all_plans, asked, begins, best, bobbins_of, bobbins_on, check, last, rack,
                         rack_answer, threads)


def unwindable(section):
    return [-6, 1, section]


def left(count):
    return [-4, 1, count]


class Check(unittest.TestCase):
    def test_bobbins_when_all_are_wound(self):
        start = [begins(3), threads(1, 2, 3, 3, 2, 1)]
        self.assertEqual(last(*start, check((3, 0), (3, 1))), [3])
        self.assertEqual(last(*start, check((3, 0), (3, 0))), [5])
        self.assertEqual(last(*start, check((3, 1), (3, 0))), [3])
        self.assertEqual(last(*start, check((1, 0), (2, 0), (1, 0), (2, 0))), [6])

    def test_pegs_behind_the_section_stay_as_they_are(self):
        self.assertEqual(last(begins(3), threads(1, 2, 3, 4, 4, 2, 3), check((3, 0), (1, 0), (3, 0))), [4])
        self.assertEqual(last(begins(3), threads(1, 2, 3, 2, 1, 3), check((3, 0), (2, 1), (1, 0))), [4])

    def test_every_plan_of_some_warps(self):
        chance = random.Random(11)
        for pegs in (1, 2, 3, 4):
            colours = [chance.randint(1, 3) for thread in range(6)]
            for plan in all_plans(pegs, 6):
                expected = [bobbins_of(plan, [0] * pegs, colours)]
                self.assertEqual(last(begins(pegs), threads(*colours), check(*plan)), expected, (colours, plan))

    def test_a_section_of_no_thread(self):
        start = [begins(2), threads(1, 2, 3)]
        self.assertEqual(last(*start, check((0, 0))), unwindable(0))
        self.assertEqual(last(*start, check((0, 1), (2, 0), (1, 0))), unwindable(0))
        self.assertEqual(last(*start, check((2, 0), (0, 0), (1, 0))), unwindable(1))
        self.assertEqual(last(*start, check((2, 0), (1, 0), (0, 0))), unwindable(2))
        self.assertEqual(last(check((0, 0))), unwindable(0))

    def test_more_than_are_left(self):
        start = [begins(4), threads(1, 2, 3)]
        self.assertEqual(last(*start, check((4, 0))), unwindable(0))
        self.assertEqual(last(*start, check((2, 0), (2, 1))), unwindable(1))
        self.assertEqual(last(*start, check((3, 0), (1, 0))), unwindable(1))
        self.assertEqual(last(check((1, 0))), unwindable(0))

    def test_more_than_there_are_pegs(self):
        for pegs in (1, 2, 3):
            start = [begins(pegs), threads(1, 2, 3, 4, 5, 6)]
            self.assertEqual(last(*start, check((pegs + 1, 0))), unwindable(0))
            self.assertEqual(last(*start, check((1, 0), (pegs, 1), (pegs + 1, 1))), unwindable(2))
        self.assertEqual(last(begins(4), threads(*[1] * 6), check((5, 0))), unwindable(0))

    def test_the_largest_length(self):
        for turned in (0, 1):
            self.assertEqual(last(check((LARGEST, turned))), unwindable(0))
            start = [begins(4), threads(1, 2, 3, 4, 5)]
            self.assertEqual(last(*start, check((4, 0), (LARGEST, turned))), unwindable(1))

    def test_the_first_of_several(self):
        self.assertEqual(last(begins(2), threads(1, 2, 3), check((1, 0), (3, 0), (0, 0), (9, 0))), unwindable(1))

    def test_threads_that_are_left(self):
        start = [begins(3), threads(1, 2, 3, 4, 5)]
        self.assertEqual(last(*start, check()), left(5))
        self.assertEqual(last(*start, check((3, 1))), left(2))
        self.assertEqual(last(*start, check((1, 0), (3, 0))), left(1))
        self.assertEqual(last(threads(*[3] * 12), check()), left(12))

    def test_no_sections_and_no_threads(self):
        self.assertEqual(last(check()), [0])
        self.assertEqual(last(begins(4), check()), [0])

    def test_an_unwindable_section_ahead_of_threads_left(self):
        self.assertEqual(last(begins(2), threads(1, 2, 3, 4, 5), check((2, 0), (0, 0))), unwindable(1))
        self.assertEqual(last(begins(2), threads(1, 2, 3, 4, 5), check((2, 0), (3, 0))), unwindable(1))

    def test_a_single_thread_told_as_turned(self):
        start = [begins(3), threads(1, 2, 1)]
        self.assertEqual(last(*start, check((1, 1), (1, 1), (1, 1))), [3])
        self.assertEqual(last(*start, check((2, 0), (1, 1))), last(*start, check((2, 0), (1, 0))))
        self.assertEqual(last(*start, check((1, 1), (2, 1))), [2])

    def test_twenty_sections(self):
        start = [begins(2), threads(*[1, 2] * 6)]
        self.assertEqual(last(*start, check(*[(1, 0)] * 20)), unwindable(12))

    def test_all_stays_as_it_was(self):
        for sections in [((3, 0), (2, 1)), ((3, 0),), ((3, 0), (0, 0)), ((3, 0), (3, 0)), ()]:
            found = asked(begins(3), threads(1, 2, 3, 3, 2), best(), check(*sections), check(*sections),
                          threads(), best(), check((3, 0), (2, 1)))
            self.assertEqual(found[3], found[4])
            self.assertEqual(found[5], [5])
            self.assertEqual(found[6], found[2])
            self.assertEqual(found[7], [5])

    def test_a_rack_with_bobbins(self):
        start = [*bobbins_on(3, 2, 1, 5), threads(1, 2, 5, 5)]
        for sections, expected in [(((2, 1), (1, 0), (1, 1)), [1]), (((3, 0), (1, 0)), [3]), (((3, 1), (1, 0)), [3]),
                                   (((2, 1),), left(2)), (((2, 1), (3, 0)), unwindable(1))]:
            found = asked(*start, check(*sections), check(*sections), rack())
            self.assertEqual(found[-3:], [expected, expected, rack_answer(4, 2, 1, 5)])


if __name__ == "__main__":
    unittest.main()
