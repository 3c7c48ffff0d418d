import random
import unittest

from tests.lines import (LARGEST, asked, begins, best, check, colours, line, plain_answers, rack, taken_apart, threads,
                         wind)
from warpwinding.rack import answers

MOST_CALLS = 60
MOST_BEST = 10


def some_sections(chance):
    sections = []
    for number in range(chance.choice((0, 1, 2, 3, 4, 5, 6, 20))):
        length = chance.choice((1, 1, 1, 2, 2, 3, 4)) if chance.random() < 0.97 else chance.choice((0, 5, 12, LARGEST))
        sections.append((length, chance.randint(0, 1)))
    return sections


def some_threads(chance, most, palette):
    row = [chance.choice(palette) for thread in range(chance.randint(0, most))]
    if row and chance.random() < 0.08:
        row[chance.randrange(len(row))] = chance.choice((0, 10, LARGEST))
    return row


def some_call(chance, kind, most, palette):
    if kind == "begins":
        return begins(chance.choice((1, 2, 3, 4, 2, 3, 4, 0, 5, LARGEST)))
    if kind == "threads":
        return threads(*some_threads(chance, chance.choice((1, 3, most)), palette))
    if kind == "check":
        return check(*some_sections(chance))
    if kind == "wind":
        length = chance.choice((1, 1, 2, 2, 3, 4)) if chance.random() < 0.9 else chance.choice((0, 5, 12, LARGEST))
        return wind(length, chance.randint(0, 1))
    return {"best": best, "rack": rack, "colours": colours}[kind]()


def some_line(chance, count, most):
    """So many calls by chance, at most so many threads told at once."""
    palette = chance.sample(range(1, 10), chance.choice((1, 2, 2, 3, 3, 4, 9)))
    calls = []
    bests = 0
    while len(calls) < count:
        kind = chance.choices(("begins", "threads", "best", "check", "wind", "rack", "colours"),
                              (1, 5, 2, 3, 7, 3, 3))[0]
        if kind == "best":
            bests += 1
            if bests > MOST_BEST:
                continue
        calls.append(some_call(chance, kind, most, palette))
    return calls


class WholeLines(unittest.TestCase):
    def assert_plain(self, calls):
        self.assertEqual(asked(*calls), plain_answers(*calls), calls)

    def test_lines_of_every_length(self):
        chance = random.Random(21)
        for count in range(1, MOST_CALLS + 1):
            self.assert_plain([begins(chance.randint(1, 4))] * (count > 1) + some_line(chance, count - (count > 1), 6))

    def test_lines_of_sixty_calls(self):
        chance = random.Random(22)
        kinds = {}
        for turn in range(60):
            calls = [begins(1 + turn % 4)] + some_line(chance, MOST_CALLS - 1, 5)
            self.assertEqual(len(calls), MOST_CALLS)
            self.assert_plain(calls)
            for call, answer in zip(calls, plain_answers(*calls)):
                told = answer[0] if answer[0] < 0 else "taken"
                kinds[call[0], told] = kinds.get((call[0], told), 0) + 1
        # All seven calls, and each refusal of each, must have come, or the lines above would say little.
        wanted = {(call, "taken") for call in range(7)} | {(0, -1), (1, -1), (1, -5), (3, -4), (3, -6), (4, -6)}
        self.assertEqual(set(kinds), wanted)

    def test_lines_with_up_to_twelve_threads(self):
        chance = random.Random(23)
        for turn in range(12):
            self.assert_plain([begins(1 + turn % 4)] + some_line(chance, 29, 12))

    def test_the_best_plan_wound_to_its_end(self):
        chance = random.Random(24)
        for turn in range(60):
            calls = [begins(1 + turn % 4)]
            calls += [threads(*[chance.randint(1, 5) for thread in range(3)]), wind(1 + turn % 2, turn % 2)]
            calls += [threads(*[chance.randint(1, 5) for thread in range(chance.randint(0, 6))]), best()]
            answer = asked(*calls)[-1]
            count = answer[2]
            plan = list(zip(answer[5:5 + count], answer[6 + count:]))
            found = asked(*calls, check(*plan), *[wind(*section) for section in plan], rack(), colours())
            behind = found[len(calls):]
            self.assertEqual(behind[0], [answer[0]])
            self.assertEqual(sum(put_on[0] for put_on in behind[1:-2]), answer[0])
            self.assertEqual((behind[-2][0], behind[-1]), (0, [0]))

    def test_best_falls_by_what_its_own_sections_put_on(self):
        chance = random.Random(25)
        for turn in range(40):
            calls = [begins(1 + turn % 4), threads(*[chance.randint(1, 4) for thread in range(12)])]
            for step in range(12):
                answer = asked(*calls, best())[-1]
                if answer[2] == 0:
                    break
                calls.append(wind(answer[5], answer[6 + answer[2]]))
                put_on, further = asked(*calls, best())[-2:]
                self.assertEqual((further[0], further[2]), (answer[0] - put_on[0], answer[2] - 1))

    def test_lines_know_nothing_of_each_other(self):
        chance = random.Random(26)
        lines = [line(*some_line(chance, 20, 6)) for turn in range(30)]
        alone = [answers(list(numbers)) for numbers in lines]
        again = [answers(list(numbers)) for numbers in reversed(lines)]
        self.assertEqual(again, alone[::-1])
        for numbers, first in zip(lines, alone):
            self.assertEqual(taken_apart(answers(numbers)), taken_apart(first))


if __name__ == "__main__":
    unittest.main()
