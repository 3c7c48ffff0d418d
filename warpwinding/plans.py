"""The best plan for a warp, and how many are as good."""

from warpwinding.winding import bobbins_put_on, colours_wanted, pegs_after


class Way:
    """The earliest of the best sections that lead to one rack, and how many plans are as good."""

    def __init__(self, bobbins, sections, plans):
        self.bobbins = bobbins
        self.sections = sections
        self.plans = plans

    def rank(self):
        """What makes one way better than another: the lower the better."""
        return (self.bobbins, len(self.sections))


def joined(known, further):
    """The better of two ways to one place; of two as good the earlier, with the plans of both."""
    if known is None or further.rank() < known.rank():
        return further
    if known.rank() < further.rank():
        return known
    # Sections are (length, turned), so the order of tuples is the order of "earlier".
    sections = min(known.sections, further.sections)
    return Way(known.bobbins, sections, known.plans + further.plans)


def section_choices(longest):
    """Each section (length, turned) of at most so many threads that a plan may have."""
    # A plan doesn't turn a single thread, else each such section would count twice.
    choices = [(1, 0)]
    for length in range(2, longest + 1):
        choices.append((length, 0))
        choices.append((length, 1))
    return choices


def ways_to(wound, layers, threads, peg_count):
    """For each rack that may stand there once so many threads are wound, the best way to it."""
    found = {}
    for choice in section_choices(min(wound, peg_count)):
        before = wound - choice[0]
        wanted = colours_wanted(threads[before:wound], choice[1])
        for rack, way in layers[before].items():
            after = pegs_after(rack, wanted)
            bobbins = way.bobbins + bobbins_put_on(rack, wanted)
            further = Way(bobbins, way.sections + (choice,), way.plans)
            found[after] = joined(found.get(after), further)
    return found


def best_way(pegs, threads):
    """The best way to wind all threads from this rack; both are tuples of colours."""
    # How the threads behind are best wound depends on the rack alone, not on how it
    # came to stand so: one way for each rack is enough.
    layers = [{pegs: Way(0, (), 1)}]
    for wound in range(1, len(threads) + 1):
        layers.append(ways_to(wound, layers, threads, len(pegs)))
    found = None
    for way in layers[len(threads)].values():
        found = joined(found, way)
    return found
