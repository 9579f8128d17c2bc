"""Cells, rules, deeds, asks and blocks: what they are, and what is refused."""

from writeways.errors import BadDeed, BadHand, BadHands, BadNumber, BadPlace, BadRule

CELLS = 64
BLOCKS = 16
BLOCK_CELLS = 4
HIGHEST_NUMBER = 999

MOST_RULES = 3
MOST_HANDS = 3
MOST_DEEDS = 200
MOST_ASKS = 400
MOST_LOOKED_AT = 200

SETS = (1, 2, 4)
MOST_WAYS = 4
WRITES = ("through", "back")
TAKES = ("in", "by")
LEAVES = ("first", "late")


def is_number(value):
    # Python counts True and False among the integers; the document does not.
    return isinstance(value, int) and not isinstance(value, bool)


def is_between(value, low, high):
    return is_number(value) and low <= value <= high


def is_hand(value, hands):
    return is_between(value, 0, hands - 1)


def is_place(value):
    return is_between(value, 0, CELLS - 1)


def is_block(value):
    return is_between(value, 0, BLOCKS - 1)


def is_held_number(value):
    return is_between(value, 0, HIGHEST_NUMBER)


def is_rule(rule):
    if len(rule) != 5:
        return False
    sets, ways, write, take, leave = rule
    if not is_number(sets) or sets not in SETS:
        return False
    if not is_between(ways, 1, MOST_WAYS):
        return False
    return write in WRITES and take in TAKES and leave in LEAVES


def is_deed(deed, hands):
    if len(deed) == 3:
        word, hand, place = deed
        return word == "look" and is_hand(hand, hands) and is_place(place)
    if len(deed) == 4:
        word, hand, place, number = deed
        return word == "set" and is_hand(hand, hands) and is_place(place) and is_held_number(number)
    return False


def is_ask(ask):
    if len(ask) != 2:
        return False
    word, number = ask
    if word in ("look", "cell"):
        return is_place(number)
    return word in ("bring", "home") and is_block(number)


def check_rules(rules):
    if not rules:
        raise BadRule(0)
    for at, rule in enumerate(rules):
        if at == MOST_RULES or not is_rule(rule):
            raise BadRule(at)


def check_hands(hands):
    if not is_between(hands, 1, MOST_HANDS):
        raise BadHands(f"hands are counted from 1 to {MOST_HANDS}")


def check_deeds(deeds, hands):
    for at, deed in enumerate(deeds):
        if at == MOST_DEEDS or not is_deed(deed, hands):
            raise BadDeed(at)


def check_asks(asks):
    for at, ask in enumerate(asks):
        if at == MOST_ASKS or not is_ask(ask):
            raise BadDeed(at)


def check_blocks(blocks):
    for at, block in enumerate(blocks):
        if at == MOST_LOOKED_AT or not is_block(block):
            raise BadDeed(at)


def check_hand(hand, hands):
    if not is_hand(hand, hands):
        raise BadHand(f"hands are numbered from 0 to {hands - 1}")


def check_place(place):
    if not is_place(place):
        raise BadPlace(f"places are numbered from 0 to {CELLS - 1}")


def check_number(number):
    if not is_held_number(number):
        raise BadNumber(f"cells hold numbers from 0 to {HIGHEST_NUMBER}")
