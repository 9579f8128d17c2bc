"""How far the same blocks stand apart, and what rooms of all sizes bring by the late rule."""

from writeways.rules import check_blocks

MOST_LATE_WAYS = 16


def depths(blocks):
    check_blocks(blocks)
    # Each block looked at so far stands here once, the latest first, so a block's place is its depth.
    recent = []
    found = []
    for block in blocks:
        if block in recent:
            found.append(recent.index(block))
            recent.remove(block)
        else:
            found.append(None)
        recent.insert(0, block)
    return found


def late_brings(blocks):
    found = depths(blocks)
    return [count_brings(found, ways) for ways in range(1, MOST_LATE_WAYS + 1)]


def count_brings(found, ways):
    # By leave "late" a set holds the blocks looked at last: those of a depth below its ways are there.
    return len([depth for depth in found if depth is None or depth >= ways])
