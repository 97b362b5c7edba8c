"""Which sets of staves go round for which kinds, and what is planed off of them.

A set of staves is one number: the sum of 2 to the power of i for each stave i in it.
A kind is its five numbers: around, off, few, many, holds.
"""


def widths_in(staves, widths):
    """Give back the widths of the staves in a set."""
    return [width for place, width in enumerate(widths) if (staves >> place) & 1]


def goes_round(staves, kind, widths):
    """Tell whether a set of staves goes round for a kind."""
    around, off, few, many, holds = kind
    chosen = widths_in(staves, widths)
    return few <= len(chosen) <= many and around <= sum(chosen) <= around + off


def waste_of(staves, kind, widths):
    """Give back by how much a set that goes round is wider than its kind is round."""
    return sum(widths_in(staves, widths)) - kind[0]


def all_casks(kinds, widths):
    """Give back each cask that can be made: its set, how much it holds, its waste."""
    casks = []
    for staves in range(1 << len(widths)):
        for kind in kinds:
            if goes_round(staves, kind, widths):
                casks.append((staves, kind[4], waste_of(staves, kind, widths)))
    return casks
