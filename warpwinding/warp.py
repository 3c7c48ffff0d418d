"""What is known of one warp between its calls."""

from warpwinding.winding import bobbins_put_on, colours_wanted, pegs_after


class Warp:
    """The colours on the rack's pegs (0: empty), and of the threads still to be wound."""

    def __init__(self, pegs, threads):
        # Tuples, so that two warps may share them and neither can change the other's.
        self.pegs = pegs
        self.threads = threads

    def can_wind(self, length):
        """Whether the next so many threads can be wound as one section."""
        return 1 <= length and length <= len(self.threads) and length <= len(self.pegs)

    def wind_section(self, length, turned):
        """Wind the next threads, which must be ones that can be wound; how many bobbins are put on."""
        wanted = colours_wanted(self.threads[:length], turned)
        bobbins = bobbins_put_on(self.pegs, wanted)
        self.pegs = pegs_after(self.pegs, wanted)
        self.threads = self.threads[length:]
        return bobbins
