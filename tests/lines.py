"""What the tests share: calls written plainly, answers taken apart, and a plain search."""

from warpwinding.rack import answers

LARGEST = 4294967295


def begins(pegs):
    return [0, pegs]


def threads(*colours):
    return [1, len(colours), *colours]


def best():
    return [2]


def check(*sections):
    """Each section is (length, turned)."""
    numbers = [number for section in sections for number in section]
    return [3, len(numbers), *numbers]


def line(*calls):
    return [number for call in calls for number in call]


def taken_apart(numbers):
    """The answers of a line, each the list of its numbers; it must come out even."""
    found = []
    at = 0
    while at < len(numbers):
        size = numbers[at]
        answer = numbers[at + 1:at + 1 + size]
        if size < 1 or len(answer) != size:
            raise AssertionError(f"the counts of {numbers} don't come out even")
        found.append(answer)
        at += 1 + size
    return found


def asked(*calls):
    return taken_apart(answers(line(*calls)))


def last(*calls):
    return asked(*calls)[-1]


def best_answer(bobbins, sections, plans, lengths, turns):
    return [bobbins, 2, sections, plans, len(lengths), *lengths, len(turns), *turns]


def all_plans(pegs, count):
    """Every plan for so many threads, the earlier ones first."""
    if count == 0:
        return [[]]
    plans = []
    for length in range(1, min(pegs, count) + 1):
        for turned in ([0] if length == 1 else [0, 1]):
            plans += [[(length, turned)] + rest for rest in all_plans(pegs, count - length)]
    return plans


def bobbins_of(plan, rack, colours):
    """Wind the plan thread by thread, and count."""
    pegs = list(rack)
    put_on = 0
    first = 0
    for length, turned in plan:
        for step in range(length):
            peg = length - 1 - step if turned else step
            if pegs[peg] != colours[first + step]:
                pegs[peg] = colours[first + step]
                put_on += 1
        first += length
    return put_on


def searched(rack, colours):
    """(bobbins, sections, plans as good, the earliest of them), by going through all plans."""
    ranked = [(bobbins_of(plan, rack, colours), len(plan), plan) for plan in all_plans(len(rack), len(colours))]
    lowest = min((bobbins, sections) for bobbins, sections, plan in ranked)
    good = [plan for bobbins, sections, plan in ranked if (bobbins, sections) == lowest]
    return lowest[0], lowest[1], len(good), good[0]


def searched_answer(rack, colours):
    bobbins, sections, plans, plan = searched(rack, colours)
    return best_answer(bobbins, sections, plans, [part[0] for part in plan], [part[1] for part in plan])
