"""One section, wound from the first pegs of a rack."""


def colours_wanted(section, turned):
    """The colours that the first pegs must have for these threads, from peg 0 on."""
    if turned == 1:
        return tuple(reversed(section))
    return section


def bobbins_put_on(pegs, wanted):
    """How many of the first pegs haven't the colour that is wanted there."""
    return len([colour for peg, colour in zip(pegs, wanted) if peg != colour])


def pegs_after(pegs, wanted):
    """The rack once the wanted colours are on its first pegs."""
    return wanted + pegs[len(wanted):]
