"""The calls on one warp, read from one list of numbers and answered in another."""

from warpwinding.calls import begins, best, check, colours, rack_now, threads, wind
from warpwinding.warp import Warp

BEGINS = 0
THREADS = 1
BEST = 2
CHECK = 3
WIND = 4
RACK = 5


def call_size(calls, start):
    """How many numbers the call has that begins there, its own number among them."""
    call = calls[start]
    if call == THREADS or call == CHECK:
        return 2 + calls[start + 1]
    if call == BEGINS:
        return 2
    if call == WIND:
        return 3
    return 1


def answer(warp, numbers):
    """The answer to one call; of a call with a row, the row begins at the third number."""
    call = numbers[0]
    if call == BEGINS:
        return begins(warp, numbers[1])
    if call == THREADS:
        return threads(warp, numbers[2:])
    if call == BEST:
        return best(warp)
    if call == CHECK:
        return check(warp, numbers[2:])
    if call == WIND:
        return wind(warp, numbers[1], numbers[2])
    if call == RACK:
        return rack_now(warp)
    # Of the seven calls, colours alone is left, and no other number is handed in.
    return colours(warp)


def answers(calls):
    """For each call, in order: how many numbers are answered, then these."""
    warp = Warp((0,), ())
    given = []
    start = 0
    while start < len(calls):
        end = start + call_size(calls, start)
        answered = answer(warp, calls[start:end])
        given.append(len(answered))
        given.extend(answered)
        start = end
    return given
