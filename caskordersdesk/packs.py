"""What check, order and most answer: the packs that can be made, and the best of them."""

from caskordersdesk.casks import all_casks, goes_round, waste_of

MOST_ORDERED = 1000


def put_cask_to(counts, rest, holds, waste):
    """Count in counts each pack of rest with one more cask, which holds so much."""
    for pack, how_many in rest.items():
        bigger = (pack[0] + holds, pack[1] + 1, pack[2] + waste)
        counts[bigger] = counts.get(bigger, 0) + how_many


def count_packs_of(staves, casks, counted):
    """Count the packs that use all of these staves and no others.

    The lowest stave is in just one cask of a pack: to go by that cask alone counts no pack
    twice. counted has, for each lower set, what this function gave back of it.
    """
    lowest = staves & -staves
    counts = {}
    for used, holds, waste in casks:
        if used & lowest and (used & staves) == used:
            put_cask_to(counts, counted[staves - used], holds, waste)
    return counts


def count_packs(kinds, widths):
    """Count all packs: how many there are by (what they hold, how many casks, their waste).

    They're counted set by set, not told one by one, since there may be over 200000 of them,
    but few that differ in these three numbers and use the same staves.
    """
    casks = all_casks(kinds, widths)
    counted = [{(0, 0, 0): 1}]
    for staves in range(1, 1 << len(widths)):
        counted.append(count_packs_of(staves, casks, counted))
    counts = {}
    for of_set in counted:
        for pack, how_many in of_set.items():
            counts[pack] = counts.get(pack, 0) + how_many
    return counts


def are_there(sets, numbers, kinds, widths):
    """Tell whether all these sets are of the shop's staves, and all these kinds its own."""
    return (
        all([staves < 1 << len(widths) for staves in sets])
        and all([number < len(kinds) for number in numbers])
    )


def check(kinds, widths, row):
    """Answer what these casks hold, how many they are and their waste, if they're a pack.

    -1: a set or a kind isn't there; -6, then the first that doesn't go round; -7, then the
    first that has a stave of one before it.
    """
    sets = row[0::2]
    numbers = row[1::2]
    if not are_there(sets, numbers, kinds, widths):
        return [-1]
    casks = [(staves, kinds[number]) for staves, number in zip(sets, numbers)]
    for place, cask in enumerate(casks):
        if not goes_round(cask[0], cask[1], widths):
            return [-6, place]
    used = 0
    for place, staves in enumerate(sets):
        if used & staves:
            return [-7, place]
        used = used | staves
    holds = sum([kind[4] for staves, kind in casks])
    waste = sum([waste_of(staves, kind, widths) for staves, kind in casks])
    return [holds, len(casks), waste]


def order(kinds, widths, much):
    """Answer the least room, casks and waste of a pack for so much, and how many are as good.

    -1: so much can't be ordered; -6: no pack holds so much.
    """
    if not 1 <= much <= MOST_ORDERED:
        return [-1]
    counts = count_packs(kinds, widths)
    enough = [pack for pack in counts if pack[0] >= much]
    if not enough:
        return [-6]
    # Packs are compared by what they hold, then casks, then waste: as the document ranks them.
    best = min(enough)
    return [best[0] - much, best[1], best[2], counts[best]]


def most(kinds, widths):
    """Answer the most that a pack holds, its fewest casks, its least waste, how many there are."""
    counts = count_packs(kinds, widths)
    top = max([pack[0] for pack in counts])
    best = min([pack for pack in counts if pack[0] == top])
    return [best[0], best[1], best[2], counts[best]]
