"""The calls about one warp: each changes it if it must, and gives back the numbers answered."""

from warpwinding.plans import best_way
from warpwinding.warp import Warp

MOST_PEGS = 4
MOST_COLOURS = 9
MOST_THREADS = 12

OUT_OF_RANGE = -1
THREADS_LEFT = -4
TOO_MANY_THREADS = -5
NOT_TO_BE_WOUND = -6


def listed(numbers):
    """A list as it stands in an answer: behind how many numbers it has."""
    return [len(numbers)] + numbers


def run_count(row):
    """How many runs a row has: neighbours that are the same are one run."""
    return len([place for place in range(len(row)) if place == 0 or row[place] != row[place - 1]])


def begins(warp, pegs):
    if pegs < 1 or pegs > MOST_PEGS:
        return [OUT_OF_RANGE]
    warp.pegs = (0,) * pegs
    warp.threads = ()
    return [0]


def threads(warp, added):
    if any([colour < 1 or colour > MOST_COLOURS for colour in added]):
        return [OUT_OF_RANGE]
    if len(warp.threads) + len(added) > MOST_THREADS:
        return [TOO_MANY_THREADS]
    warp.threads = warp.threads + tuple(added)
    return [len(warp.threads)]


def best(warp):
    way = best_way(warp.pegs, warp.threads)
    lengths = [section[0] for section in way.sections]
    turns = [section[1] for section in way.sections]
    return [way.bobbins] + listed([len(way.sections), way.plans]) + listed(lengths) + listed(turns)


def check(warp, sections):
    # The sections are tried on a warp of its own: the one that is asked about stays as it is.
    trial = Warp(warp.pegs, warp.threads)
    bobbins = 0
    for section in range(len(sections) // 2):
        length = sections[2 * section]
        if not trial.can_wind(length):
            return [NOT_TO_BE_WOUND] + listed([section])
        bobbins = bobbins + trial.wind_section(length, sections[2 * section + 1])
    if len(trial.threads) > 0:
        return [THREADS_LEFT] + listed([len(trial.threads)])
    return [bobbins]


def wind(warp, length, turned):
    if not warp.can_wind(length):
        return [NOT_TO_BE_WOUND]
    return [warp.wind_section(length, turned)]


def rack_now(warp):
    return [len(warp.threads)] + listed(list(warp.pegs))


def colours(warp):
    answered = [run_count(warp.threads)]
    for colour in sorted(set(warp.threads)):
        answered = answered + listed([colour, warp.threads.count(colour)])
    return answered
