"""What one shop has: its kinds of casks and its staves."""

MOST_KINDS = 3
MOST_STAVES = 7

MOST_ROUND = 400
MOST_OFF = 60
MOST_IN_A_CASK = 8
MOST_HELD = 60
MOST_WIDTH = 60


def is_kind(around, off, few, many, holds):
    """Tell whether a kind's five numbers are as told."""
    return (
        1 <= around <= MOST_ROUND
        and 0 <= off <= MOST_OFF
        and 1 <= few <= many <= MOST_IN_A_CASK
        and 1 <= holds <= MOST_HELD
    )


class Stock:
    """The kinds and the staves of one shop, each numbered from 0 as they came."""

    def __init__(self):
        self.kinds = []
        self.widths = []

    def begin(self):
        """Have no kinds and no staves again."""
        self.kinds = []
        self.widths = []
        return 0

    def add_kind(self, around, off, few, many, holds):
        """Answer the new kind's number; -1: a number isn't as told, -5: no more kinds."""
        if not is_kind(around, off, few, many, holds):
            return -1
        if len(self.kinds) == MOST_KINDS:
            return -5
        self.kinds.append((around, off, few, many, holds))
        return len(self.kinds) - 1

    def add_stave(self, width):
        """Answer the new stave's number; -1: its width isn't as told, -5: no more staves."""
        if not 1 <= width <= MOST_WIDTH:
            return -1
        if len(self.widths) == MOST_STAVES:
            return -5
        self.widths.append(width)
        return len(self.widths) - 1
