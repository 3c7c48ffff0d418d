"""What is known of one warp between its calls."""


class Warp:
    """The colours on the rack's pegs (0: empty), and of the threads still to be wound."""

    def __init__(self):
        # Tuples, so that a call which only looks ahead can't change them.
        self.pegs = (0,)
        self.threads = ()
