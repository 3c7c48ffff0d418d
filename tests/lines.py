"""What the tests share: calls written plainly, answers taken apart, and a plain search."""

from functools import lru_cache

from warpwinding.rack import answers

LARGEST = 4294967295


def begins(pegs):
    return [0, pegs]


def threads(*colours):
    return [1, len(colours), *colours]


def best():
    return [2]


def check(*sections):
    """Each section is (length, turned)."""
    numbers = [number for section in sections for number in section]
    return [3, len(numbers), *numbers]


def wind(length, turned):
    return [4, length, turned]


def rack():
    return [5]


def colours():
    return [6]


def bobbins_on(pegs, *first):
    """The calls behind which a rack of so many pegs has these bobbins on its first ones, and no threads are left."""
    calls = [begins(pegs)]
    if first:
        calls += [threads(*first), wind(len(first), 0)]
    return calls


def line(*calls):
    return [number for call in calls for number in call]


def taken_apart(numbers):
    """The answers of a line, each the list of its numbers; it must come out even."""
    found = []
    at = 0
    while at < len(numbers):
        size = numbers[at]
        answer = numbers[at + 1:at + 1 + size]
        if size < 1 or len(answer) != size:
            raise AssertionError(f"the counts of {numbers} don't come out even")
        found.append(answer)
        at += 1 + size
    return found


def asked(*calls):
    return taken_apart(answers(line(*calls)))


def last(*calls):
    return asked(*calls)[-1]


def best_answer(bobbins, sections, plans, lengths, turns):
    return [bobbins, 2, sections, plans, len(lengths), *lengths, len(turns), *turns]


def rack_answer(left, *pegs):
    return [left, len(pegs), *pegs]


def colours_answer(runs, *counted):
    """Each of those counted is (colour, how many)."""
    return [runs] + [number for pair in counted for number in (2, *pair)]


@lru_cache(maxsize=None)
def all_plans(pegs, count):
    """Every plan for so many threads, the earlier ones first."""
    if count == 0:
        return [[]]
    plans = []
    for length in range(1, min(pegs, count) + 1):
        for turned in ([0] if length == 1 else [0, 1]):
            plans += [[(length, turned)] + rest for rest in all_plans(pegs, count - length)]
    return plans


def wound(pegs, section, turned):
    """(the rack then, bobbins put on), a section wound thread by thread."""
    pegs = list(pegs)
    put_on = 0
    for step, colour in enumerate(section):
        peg = len(section) - 1 - step if turned else step
        if pegs[peg] != colour:
            pegs[peg] = colour
            put_on += 1
    return pegs, put_on


def bobbins_of(plan, pegs, row):
    """Wind the whole plan, and count."""
    total = 0
    for length, turned in plan:
        pegs, put_on = wound(pegs, row[:length], turned)
        row = row[length:]
        total += put_on
    return total


@lru_cache(maxsize=None)
def searched(pegs, row):
    """(bobbins, sections, plans as good, the earliest of them), by going through all plans."""
    ranked = [(bobbins_of(plan, pegs, row), len(plan), plan) for plan in all_plans(len(pegs), len(row))]
    lowest = min((bobbins, sections) for bobbins, sections, plan in ranked)
    good = [plan for bobbins, sections, plan in ranked if (bobbins, sections) == lowest]
    return lowest[0], lowest[1], len(good), good[0]


def searched_answer(pegs, row):
    bobbins, sections, plans, plan = searched(tuple(pegs), tuple(row))
    return best_answer(bobbins, sections, plans, [part[0] for part in plan], [part[1] for part in plan])


class PlainWarp:
    """The document's words once more, as plainly as can be: what the program is held against."""

    def __init__(self):
        self.pegs = [0]
        self.left = []

    def answer(self, call):
        if call[0] == 0:
            return self.begins(call[1])
        if call[0] == 1:
            return self.threads(call[2:])
        if call[0] == 2:
            return searched_answer(self.pegs, self.left)
        if call[0] == 3:
            return self.check(list(zip(call[2::2], call[3::2])))
        if call[0] == 4:
            return self.wind(call[1], call[2])
        if call[0] == 5:
            return rack_answer(len(self.left), *self.pegs)
        return self.colours()

    def begins(self, pegs):
        if pegs not in (1, 2, 3, 4):
            return [-1]
        self.pegs = [0] * pegs
        self.left = []
        return [0]

    def threads(self, row):
        if not set(row) <= set(range(1, 10)):
            return [-1]
        if len(self.left + row) > 12:
            return [-5]
        self.left = self.left + row
        return [len(self.left)]

    def wind(self, length, turned):
        if length not in range(1, min(len(self.left), len(self.pegs)) + 1):
            return [-6]
        self.pegs, put_on = wound(self.pegs, self.left[:length], turned)
        self.left = self.left[length:]
        return [put_on]

    def check(self, sections):
        trial = PlainWarp()
        trial.pegs = self.pegs
        trial.left = self.left
        total = 0
        for number, section in enumerate(sections):
            answer = trial.wind(*section)
            if answer == [-6]:
                return [-6, 1, number]
            total += answer[0]
        return [-4, 1, len(trial.left)] if trial.left else [total]

    def colours(self):
        runs = 0
        before = None
        for colour in self.left:
            runs += colour != before
            before = colour
        return colours_answer(runs, *[(colour, self.left.count(colour)) for colour in range(1, 10)
                                      if colour in self.left])


def plain_answers(*calls):
    warp = PlainWarp()
    return [warp.answer(call) for call in calls]
