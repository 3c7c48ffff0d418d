import itertools
import unittest

from tests.lines import (LARGEST, all_plans, asked, begins, best, bobbins_of, bobbins_on, check, colours,
                         colours_answer, last, rack, rack_answer, searched_answer, threads, wind, wound)

REFUSED = [-6]


class Wind(unittest.TestCase):
    def test_straight(self):
        found = asked(begins(3), threads(1, 2, 3, 4, 5), wind(3, 0), rack(), colours())
        self.assertEqual(found[2:], [[3], rack_answer(2, 1, 2, 3), colours_answer(2, (4, 1), (5, 1))])

    def test_turned(self):
        found = asked(begins(3), threads(1, 2, 3, 4, 5), wind(3, 1), rack(), colours())
        self.assertEqual(found[2:], [[3], rack_answer(2, 3, 2, 1), colours_answer(2, (4, 1), (5, 1))])

    def test_a_turned_section_begins_at_peg_nought_though_there_are_more_pegs(self):
        found = asked(begins(4), threads(7, 8), wind(2, 1), rack())
        self.assertEqual(found[2:], [[2], rack_answer(0, 8, 7, 0, 0)])

    def test_a_single_thread_told_as_turned_is_wound_the_same(self):
        for pegs in (1, 2, 3, 4):
            start = [*bobbins_on(pegs, *[5] * pegs), threads(6, 5, 5)]
            straight = asked(*start, wind(1, 0), rack(), colours())[-3:]
            self.assertEqual(asked(*start, wind(1, 1), rack(), colours())[-3:], straight)
            self.assertEqual(straight, [[1], rack_answer(2, 6, *[5] * (pegs - 1)), colours_answer(1, (5, 2))])

    def test_one_peg(self):
        found = asked(threads(4, 4, 5), wind(1, 0), rack(), wind(1, 1), rack(), wind(1, 0), rack(), wind(1, 0))
        self.assertEqual(found[1:], [[1], rack_answer(2, 4), [0], rack_answer(1, 4), [1], rack_answer(0, 5), REFUSED])

    def test_pegs_that_have_the_colour_need_no_bobbin(self):
        start = [*bobbins_on(4, 1, 2, 3, 4), threads(4, 3, 2, 1)]
        self.assertEqual(asked(*start, wind(4, 1), rack())[-2:], [[0], rack_answer(0, 1, 2, 3, 4)])
        self.assertEqual(asked(*start, wind(4, 0), rack())[-2:], [[4], rack_answer(0, 4, 3, 2, 1)])
        start = [*bobbins_on(4, 1, 2, 3, 4), threads(1, 9, 3, 8)]
        self.assertEqual(asked(*start, wind(4, 0), rack())[-2:], [[2], rack_answer(0, 1, 9, 3, 8)])

    def test_a_bobbin_on_another_peg_is_of_no_use(self):
        self.assertEqual(asked(*bobbins_on(2, 1, 2), threads(2), wind(1, 0), rack())[-2:], [[1], rack_answer(0, 2, 2)])

    def test_other_pegs_stay_as_they_are(self):
        start = [*bobbins_on(4, 1, 2, 3, 4), threads(5, 6)]
        self.assertEqual(asked(*start, wind(1, 0), rack())[-2:], [[1], rack_answer(1, 5, 2, 3, 4)])
        self.assertEqual(asked(*start, wind(2, 0), rack())[-2:], [[2], rack_answer(0, 5, 6, 3, 4)])
        self.assertEqual(asked(*start, wind(2, 1), rack())[-2:], [[2], rack_answer(0, 6, 5, 3, 4)])
        found = asked(*bobbins_on(3, 1, 2, 3), threads(9, 9, 2, 3), wind(1, 0), wind(3, 0), rack())
        self.assertEqual(found[-3:], [[1], [0], rack_answer(0, 9, 2, 3)])

    def test_the_first_threads_are_wound_and_the_others_stay_in_order(self):
        found = asked(begins(2), threads(1, 2, 3, 4, 5), wind(2, 0), wind(2, 1), wind(1, 0), rack())
        self.assertEqual(found[2:], [[2], [2], [1], rack_answer(0, 5, 3)])

    def test_every_section_from_every_small_rack(self):
        for pegs in (1, 2, 3):
            for first in itertools.product((1, 2), repeat=pegs):
                for row in itertools.product((1, 2, 3), repeat=pegs):
                    for length, turned in itertools.product(range(1, pegs + 1), (0, 1)):
                        found = asked(*bobbins_on(pegs, *first), threads(*row), wind(length, turned), rack())
                        after, put_on = wound(first, row[:length], turned)
                        self.assertEqual(found[-2:], [[put_on], rack_answer(pegs - length, *after)])

    def test_the_winds_of_a_plan_put_on_what_check_tells(self):
        row = (1, 2, 1, 3, 3)
        for pegs in (1, 2, 3, 4):
            for plan in all_plans(pegs, 5):
                start = [begins(pegs), threads(*row)]
                found = asked(*start, check(*plan), *[wind(*section) for section in plan])
                self.assertEqual([sum(answer[0] for answer in found[3:])], found[2])
                self.assertEqual(found[2], [bobbins_of(plan, [0] * pegs, row)])


class WindRefuses(unittest.TestCase):
    def assert_refused(self, start, length):
        """The refusal stands alone, and whatever is asked then is answered as if it had not come."""
        behind = [rack(), colours(), best(), check(), check((1, 0)), threads(9), wind(1, 0), rack(), colours()]
        plain = asked(*start, *behind)
        for turned in (0, 1):
            found = asked(*start, wind(length, turned), *behind)
            self.assertEqual(found[len(start)], REFUSED)
            self.assertEqual(found[:len(start)] + found[len(start) + 1:], plain)

    def test_no_thread(self):
        self.assert_refused([], 0)
        for pegs in (1, 2, 3, 4):
            self.assert_refused([begins(pegs)], 0)
            self.assert_refused([begins(pegs), threads(1, 2, 3)], 0)
            self.assert_refused([*bobbins_on(pegs, *range(1, pegs + 1)), threads(1, 2, 3)], 0)

    def test_more_than_are_left(self):
        self.assert_refused([], 1)
        for pegs in (2, 3, 4):
            for left in range(pegs):
                self.assert_refused([*bobbins_on(pegs, *[7] * pegs), threads(*range(1, left + 1))], left + 1)
                self.assert_refused([*bobbins_on(pegs, *[7] * pegs), threads(*range(1, left + 1))], pegs)

    def test_more_than_there_are_pegs(self):
        for pegs in (1, 2, 3, 4):
            for length in range(pegs + 1, 8):
                self.assert_refused([*bobbins_on(pegs, *[7] * pegs), threads(1, 2, 3, 4, 5, 6, 7)], length)

    def test_very_many(self):
        for length in (12, 13, 255, 256, 65536, 2147483648, LARGEST - 1, LARGEST):
            self.assert_refused([], length)
            self.assert_refused([*bobbins_on(4, 1, 2, 3, 4), threads(5, 6, 7, 8, 9)], length)

    def test_as_many_as_there_are_threads_and_pegs_is_not_refused(self):
        for count in (1, 2, 3, 4):
            found = asked(begins(count), threads(*range(1, count + 1)), wind(count, 0))
            self.assertEqual(found[2], [count])

    def test_threads_that_are_wound_already(self):
        found = asked(begins(4), threads(1, 2, 3, 4), wind(3, 0), wind(2, 0), wind(1, 0), wind(1, 0), rack())
        self.assertEqual(found[2:], [[3], REFUSED, [1], REFUSED, rack_answer(0, 4, 2, 3, 0)])


class BehindWinds(unittest.TestCase):
    def test_best_goes_out_from_the_rack_and_the_threads_left(self):
        start = [begins(2), threads(1, 2, 2, 1, 1, 2)]
        found = asked(*start, best(), wind(2, 0), best(), wind(2, 1), best(), wind(2, 0), best())
        self.assertEqual(found[2], searched_answer((0, 0), (1, 2, 2, 1, 1, 2)))
        self.assertEqual(found[4], [0, 2, 2, 1, 2, 2, 2, 2, 1, 0])
        self.assertEqual(found[6], [0, 2, 1, 1, 1, 2, 1, 0])
        self.assertEqual(found[8], [0, 2, 0, 1, 0, 0])

    def test_check_goes_out_from_the_rack_and_the_threads_left(self):
        start = [*bobbins_on(3, 1, 2, 3), threads(9, 3, 2, 1, 1)]
        self.assertEqual(last(*start, check((1, 0), (3, 1), (1, 0))), [2])
        start += [wind(1, 0)]
        self.assertEqual(last(*start, check((3, 1), (1, 0))), [1])
        self.assertEqual(last(*start, check((3, 0), (1, 0))), [3])
        self.assertEqual(last(*start, check((3, 1))), [-4, 1, 1])
        self.assertEqual(last(*start, check((3, 1), (2, 0))), [-6, 1, 1])
        self.assertEqual(last(*start, check((1, 0), (3, 1), (1, 0))), [-6, 1, 2])

    def test_looking_ahead_winds_nothing(self):
        start = [*bobbins_on(3, 1, 2, 3), threads(9, 3, 2, 1)]
        found = asked(*start, best(), check((1, 0), (3, 1)), check((3, 0)), check((3, 0), (2, 0)), colours(), rack())
        self.assertEqual(found[-1], rack_answer(4, 1, 2, 3))

    def test_new_threads_stand_behind_those_left(self):
        found = asked(begins(2), threads(1, 2, 3), wind(2, 0), threads(4, 5), rack(), wind(2, 0), rack(), wind(1, 1),
                      rack())
        self.assertEqual(found[3:], [[3], rack_answer(3, 1, 2), [2], rack_answer(1, 3, 4), [1], rack_answer(0, 5, 4)])

    def test_there_is_room_for_new_threads(self):
        found = asked(begins(4), threads(*[1] * 12), threads(2), wind(4, 0), threads(*[2] * 5), threads(*[2] * 4),
                      threads(3), rack())
        self.assertEqual(found[1:], [[12], [-5], [4], [-5], [12], [-5], rack_answer(12, 1, 1, 1, 1)])

    def test_begins_makes_all_anew(self):
        for pegs in (1, 2, 3, 4):
            found = asked(*bobbins_on(3, 1, 2, 3), threads(4, 5), begins(pegs), rack(), colours(), best(), check(),
                          threads(1, 2), wind(1, 0))
            self.assertEqual(found[4:], [[0], rack_answer(0, *[0] * pegs), [0], [0, 2, 0, 1, 0, 0], [0], [2], [1]])

    def test_refused_begins_leave_the_rack(self):
        for pegs in (0, 5, LARGEST):
            found = asked(*bobbins_on(3, 1, 2, 3), threads(4, 5), begins(pegs), rack(), colours())
            self.assertEqual(found[4:], [[-1], rack_answer(2, 1, 2, 3), colours_answer(2, (4, 1), (5, 1))])


if __name__ == "__main__":
    unittest.main()
