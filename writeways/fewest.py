"""The fewest blocks that any leaving brings into one set, and what given leavings bring."""

from writeways.errors import BadLeavings, BadWays
from writeways.rules import check_blocks, is_between

MOST_TRIED_WAYS = 8


def fewest(blocks, ways):
    check_blocks(blocks)
    check_ways(ways)
    held = []
    leavings = []
    brings = 0
    for at, block in enumerate(blocks):
        if block in held:
            continue
        if len(held) == ways:
            leaver = needed_last(held, blocks[at + 1:])
            held.remove(leaver)
            leavings.append(leaver)
        held.append(block)
        brings += 1
    return brings, leavings


def judged(blocks, ways, leavings):
    check_blocks(blocks)
    check_ways(ways)
    held = []
    brings = 0
    left = 0
    for block in blocks:
        if block in held:
            continue
        if len(held) == ways:
            check_leaving(leavings, left, held)
            held.remove(leavings[left])
            left += 1
        held.append(block)
        brings += 1
    if left < len(leavings):
        raise BadLeavings(left)
    return brings


def needed_last(held, coming):
    # No leaving brings fewer than that of the block whose next look is the latest, or never comes.
    waits = [wait_for(block, coming) for block in held]
    return held[waits.index(max(waits))]


def wait_for(block, coming):
    return coming.index(block) if block in coming else len(coming)


def check_ways(ways):
    if not is_between(ways, 1, MOST_TRIED_WAYS):
        raise BadWays(f"ways are counted from 1 to {MOST_TRIED_WAYS}")


def check_leaving(leavings, at, held):
    if at == len(leavings) or leavings[at] not in held:
        raise BadLeavings(at)
