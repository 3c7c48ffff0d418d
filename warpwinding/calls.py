"""The calls about one warp: each changes it if it must, and gives back the numbers answered."""

from warpwinding.plans import best_way
from warpwinding.winding import bobbins_put_on, can_be_wound, colours_wanted, pegs_after

MOST_PEGS = 4
MOST_COLOURS = 9
MOST_THREADS = 12

OUT_OF_RANGE = -1
THREADS_LEFT = -4
TOO_MANY_THREADS = -5
NOT_TO_BE_WOUND = -6


def listed(numbers):
    """A list as it stands in an answer: behind how many numbers it has."""
    return [len(numbers)] + numbers


def begins(warp, pegs):
    if pegs < 1 or pegs > MOST_PEGS:
        return [OUT_OF_RANGE]
    warp.pegs = (0,) * pegs
    warp.threads = ()
    return [0]


def threads(warp, colours):
    if any([colour < 1 or colour > MOST_COLOURS for colour in colours]):
        return [OUT_OF_RANGE]
    if len(warp.threads) + len(colours) > MOST_THREADS:
        return [TOO_MANY_THREADS]
    warp.threads = warp.threads + tuple(colours)
    return [len(warp.threads)]


def best(warp):
    way = best_way(warp.pegs, warp.threads)
    lengths = [section[0] for section in way.sections]
    turns = [section[1] for section in way.sections]
    return [way.bobbins] + listed([len(way.sections), way.plans]) + listed(lengths) + listed(turns)


def check(warp, sections):
    pegs = warp.pegs
    left = warp.threads
    bobbins = 0
    for section in range(len(sections) // 2):
        length = sections[2 * section]
        turned = sections[2 * section + 1]
        if not can_be_wound(length, len(left), len(pegs)):
            return [NOT_TO_BE_WOUND] + listed([section])
        wanted = colours_wanted(left[:length], turned)
        bobbins = bobbins + bobbins_put_on(pegs, wanted)
        pegs = pegs_after(pegs, wanted)
        left = left[length:]
    if len(left) > 0:
        return [THREADS_LEFT] + listed([len(left)])
    return [bobbins]
