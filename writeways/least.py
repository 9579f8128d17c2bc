"""The hall that moves least."""

from writeways.errors import BadRoom
from writeways.halls import told
from writeways.rules import BLOCK_CELLS, check_deeds, check_hands, check_rules, is_between

MOST_HALLS = 6


def least(halls, hands, deeds):
    check_halls(halls)
    check_hands(hands)
    check_deeds(deeds, hands)
    counts = [cells_moved(rules, hands, deeds) for rules in halls]
    lowest = min(counts)
    return counts.index(lowest), lowest


def cells_moved(rules, hands, deeds):
    looks, moves, far = told(rules, hands, deeds)
    return sum([BLOCK_CELLS * (brought + sent_home) + singles for brought, sent_home, singles in moves])


def check_halls(halls):
    if not is_between(len(halls), 1, MOST_HALLS):
        raise BadRoom(f"halls are counted from 1 to {MOST_HALLS}")
    for rules in halls:
        check_rules(rules)
