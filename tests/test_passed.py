"""Point 9: what one room passes on; test_rooms.py has more, worked out by hand."""

import random
import unittest

from helpers import RULES
from writeways.errors import BadDeed, BadRule
from writeways.halls import Hall, passed

GOOD = (1, 1, "back", "in", "first")

BAD_ASKS = (
    ("look", -1), ("look", 64), ("look", "0"), ("look",), ("look", 0, 0),
    ("cell", -1), ("cell", 64), ("cell", "0"), ("cell",), ("cell", 0, 5),
    ("bring", -1), ("bring", 16), ("bring", "0"), ("bring",), ("bring", 0, 0),
    ("home", -1), ("home", 16), ("home", "0"), ("home",), ("home", 0, 0),
    ("set", 0), ("set", 0, 0, 5), ("Look", 0), ("", 0), (0, 0), (0,), (),
)


class Asks(unittest.TestCase):
    def test_each_kind_of_ask_alone(self):
        kinds = {
            ("back", "in"): ([("bring", 3)], [("bring", 3)], [("bring", 3)], []),
            ("back", "by"): ([("bring", 3)], [("cell", 13)], [("bring", 3)], [("home", 3)]),
            ("through", "in"): ([("bring", 3)], [("bring", 3), ("cell", 13)], [("bring", 3)], [("home", 3)]),
            ("through", "by"): ([("bring", 3)], [("cell", 13)], [("bring", 3)], [("home", 3)]),
        }
        asks = (("look", 13), ("cell", 13), ("bring", 3), ("home", 3))
        for kind, gone in kinds.items():
            for ask, more in zip(asks, gone):
                for leave in ("first", "late"):
                    with self.subTest(kind=kind, ask=ask, leave=leave):
                        self.assertEqual(passed((2, 2, *kind, leave), [ask]), more)

    def test_what_is_dirty_goes_home_when_it_leaves(self):
        for dirty in (("cell", 0), ("home", 0)):
            got = passed(GOOD, [("bring", 0), dirty, ("look", 4), ("look", 8)])
            self.assertEqual(got, [("bring", 0), ("home", 0), ("bring", 1), ("bring", 2)])
        # At the end nothing is settled.
        self.assertEqual(passed(GOOD, [("cell", 0)]), [("bring", 0)])

    def test_no_asks(self):
        self.assertEqual(passed(GOOD, []), [])

    def test_bounds_that_hold(self):
        asks = [("look", 0), ("look", 63), ("cell", 0), ("cell", 63), ("bring", 0), ("bring", 15), ("home", 0),
                ("home", 15)]
        self.assertEqual(
            passed((1, 1, "through", "by", "first"), asks),
            [("bring", 0), ("bring", 15), ("cell", 0), ("cell", 63), ("bring", 0), ("bring", 15), ("home", 0),
             ("home", 15)],
        )

    def test_each_bad_ask_at_its_number(self):
        for bad in BAD_ASKS:
            for at in (0, 1, 4):
                with self.subTest(bad=bad, at=at):
                    with self.assertRaises(BadDeed) as caught:
                        passed(GOOD, [("look", 5)] * at + [bad, ()])
                    self.assertEqual(caught.exception.number, at)

    def test_four_hundred_and_one_more(self):
        asks = [("bring", at % 16) for at in range(400)]
        self.assertEqual(passed(GOOD, asks), asks)
        for more in ([("bring", 0)], [()], [("bring", 0)] * 3):
            with self.assertRaises(BadDeed) as caught:
                passed(GOOD, asks + more)
            self.assertEqual(caught.exception.number, 400)
        with self.assertRaises(BadDeed) as caught:
            passed(GOOD, asks[:399] + [(), ("bring", 0)])
        self.assertEqual(caught.exception.number, 399)

    def test_a_bad_rule_is_number_nought(self):
        for rule in ((3, 1, "back", "in", "first"), (1, 1, "back", "in"), ()):
            with self.assertRaises(BadRule) as caught:
                passed(rule, [()])
            self.assertEqual(caught.exception.number, 0)


class LevelByLevel(unittest.TestCase):
    def check(self, chance, rules, count, places):
        hall = Hall(rules, 1)
        asks = []
        for at in range(count):
            place = chance.randrange(places)
            if chance.randrange(2):
                hall.look(0, place)
                asks.append(("look", place))
            else:
                hall.change(0, place, chance.randrange(1000))
                asks.append(("cell", place))
        for level, rule in enumerate(rules):
            logged = [(word, number) for at, hand, word, number in hall.log() if at == level]
            self.assertLessEqual(len(asks), 400)
            self.assertEqual(passed(rule, asks), logged, (rules, level))
            asks = logged

    def test_each_rule_nearest(self):
        chance = random.Random(9)
        for rule in RULES:
            self.check(chance, [rule], 200, 40)

    def test_each_rule_behind_another(self):
        chance = random.Random(91)
        for rule in RULES:
            self.check(chance, [chance.choice(RULES), rule], 100, 40)

    def test_each_rule_behind_two(self):
        chance = random.Random(92)
        for rule in RULES:
            self.check(chance, [chance.choice(RULES), chance.choice(RULES), rule], 90, 64)


if __name__ == "__main__":
    unittest.main()
