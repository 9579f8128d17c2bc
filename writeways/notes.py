"""Rules and deeds as texts."""

from writeways.errors import BadText
from writeways.rules import MOST_DEEDS, MOST_HANDS, MOST_RULES, check_deeds, check_rules, is_deed, is_rule

RULE_WORD = "room"
MOST_FIGURES = 3


def written(rules, deeds):
    check_rules(rules)
    check_deeds(deeds, MOST_HANDS)
    rows = [joined([RULE_WORD, *rule]) for rule in rules] + [joined(deed) for deed in deeds]
    return "\n".join(rows)


def read(text):
    rules = []
    deeds = []
    for at, row in enumerate(text.split("\n")):
        words = row.split(" ")
        if words[0] == RULE_WORD:
            add_rule(rules, deeds, words, at)
        else:
            add_deed(rules, deeds, words, at)
    return rules, deeds


def add_rule(rules, deeds, words, at):
    rule = tuple(numbers_of(words[1:3]) + words[3:])
    if deeds or len(rules) == MOST_RULES or not is_rule(rule):
        raise BadText(at)
    rules.append(rule)


def add_deed(rules, deeds, words, at):
    deed = tuple(words[:1] + numbers_of(words[1:]))
    if not rules or len(deeds) == MOST_DEEDS or not is_deed(deed, MOST_HANDS):
        raise BadText(at)
    deeds.append(deed)


def joined(parts):
    return " ".join([str(part) for part in parts])


def numbers_of(words):
    return [number_of(word) for word in words]


def number_of(word):
    """The number that the word writes, or None, which no rule and no deed has."""
    # The length comes first: Python itself refuses to read a number of very many figures.
    if len(word) > MOST_FIGURES or not word.isdecimal():
        return None
    number = int(word)
    return number if str(number) == word else None
