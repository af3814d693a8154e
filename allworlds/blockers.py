"""Least blockers: least lots that have a thing of each of some lots.

Lots are whole numbers here, with a bit for each thing.
"""


def least_blockers(lots):
    """The lot of all least blockers of a tuple of lots."""
    things = sorted(set([thing for lot in lots for thing in lot]))
    bits = {thing: 1 << place for place, thing in enumerate(things)}
    ordered = sorted(sorted(set(lots)), key=len)
    masks = least_masks([sum([bits[thing] for thing in lot]) for lot in ordered])
    blockers = [[thing for thing in things if bits[thing] & mask] for mask in least_blocking(masks)]
    return tuple(sorted([tuple(blocker) for blocker in blockers]))


def least_masks(masks):
    """The masks that contain no other one; those with fewer bits come first."""
    kept = []
    for mask in masks:
        if all([mask & other != other for other in kept]):
            kept.append(mask)
    return kept


def least_blocking(masks):
    """All masks that meet each of some masks, and no part of which does.

    Each least one for the first masks comes from just one least one for
    fewer of them, so none is found twice.
    """
    found = []
    waiting = [(0, 0)]
    while waiting:
        many, blocker = waiting.pop()
        while many < len(masks) and masks[many] & blocker:
            many += 1
        if many == len(masks):
            found.append(blocker)
        else:
            seen = masks[:many + 1]
            longer = [blocker | bit for bit in bits_in(masks[many])]
            waiting.extend([(many + 1, mask) for mask in longer if is_least_blocker(seen, mask)])
    return found


def bits_in(mask):
    """The single bits of a mask."""
    bits = []
    while mask:
        bits.append(mask & -mask)
        mask = mask & (mask - 1)
    return bits


def is_least_blocker(masks, blocker):
    """Whether each bit of a blocker is the only one in some mask."""
    alone = 0
    for mask in masks:
        shared = mask & blocker
        if shared & (shared - 1) == 0:
            alone = alone | shared
    return alone == blocker
