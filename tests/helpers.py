"""What several test files share: rules, deeds, those that can't be, and how a refusal is held against its class."""

import itertools
import unittest

from writeways.errors import (
    BadDeed, BadHand, BadHands, BadLeavings, BadNumber, BadPlace, BadRoom, BadRule, BadText, BadWays, WayError,
)

RULES = list(itertools.product((1, 2, 4), (1, 2, 3, 4), ("through", "back"), ("in", "by"), ("first", "late")))
GOOD = (2, 2, "back", "in", "late")
ALL = (BadRule, BadHands, BadHand, BadPlace, BadNumber, BadDeed, BadRoom, BadWays, BadLeavings, BadText)

BAD_RULES = (
    (0, 2, "back", "in", "late"),
    (-1, 2, "back", "in", "late"),
    (3, 2, "back", "in", "late"),
    (5, 2, "back", "in", "late"),
    (8, 2, "back", "in", "late"),
    ("2", 2, "back", "in", "late"),
    (2, 0, "back", "in", "late"),
    (2, -1, "back", "in", "late"),
    (2, 5, "back", "in", "late"),
    (2, "2", "back", "in", "late"),
    (2, 2, "Back", "in", "late"),
    (2, 2, "", "in", "late"),
    (2, 2, "in", "in", "late"),
    (2, 2, 1, "in", "late"),
    (2, 2, "back", "out", "late"),
    (2, 2, "back", "late", "late"),
    (2, 2, "back", 0, "late"),
    (2, 2, "back", "in", "last"),
    (2, 2, "back", "in", "in"),
    (2, 2, "back", "in", 1),
    (2, 2, "back", "in"),
    (2, 2, "back", "in", "late", "late"),
    (2, 2, "back", "in", "late", 0),
    ("back", "in", "late", 2, 2),
    (2,),
    ("room",),
    (),
)

# With two hands.
BAD_DEEDS = (
    ("look", 0, -1),
    ("look", 0, 64),
    ("look", 0, 1000),
    ("look", 0, "0"),
    ("look", -1, 0),
    ("look", 2, 0),
    ("look", 3, 0),
    ("look", "0", 0),
    ("look", 0),
    ("look", 0, 0, 0),
    ("set", 0, 0),
    ("set", 0, 0, -1),
    ("set", 0, 0, 1000),
    ("set", 0, 0, "1"),
    ("set", 0, -1, 1),
    ("set", 0, 64, 1),
    ("set", 0, "0", 1),
    ("set", -1, 0, 1),
    ("set", 2, 0, 1),
    ("set", "0", 0, 1),
    ("set", 0, 0, 1, 1),
    ("Look", 0, 0),
    ("SET", 0, 0, 1),
    ("bring", 0, 0),
    ("cell", 0, 0, 1),
    (0, 0, 0),
    (0, 0, 0, 0),
    ("look",),
    ("",),
    (),
)


def some_deeds(chance, hands, count, cells):
    deeds = []
    for at in range(count):
        hand, place = chance.randrange(hands), chance.randrange(cells)
        deeds.append(("look", hand, place) if chance.randrange(2) else ("set", hand, place, chance.randrange(1000)))
    return deeds


def some_blocks(chance, count, unlike):
    return [chance.randrange(unlike) for at in range(count)]


class Refusals(unittest.TestCase):
    def refuses(self, kind, work, *given):
        with self.assertRaises(kind) as caught:
            work(*given)
        error = caught.exception
        self.assertIsInstance(error, WayError)
        self.assertIsInstance(error, ValueError)
        for other in ALL:
            if other is not kind:
                self.assertNotIsInstance(error, other)
        return error

    def refuses_number(self, kind, number, work, *given):
        self.assertEqual(self.refuses(kind, work, *given).number, number)
