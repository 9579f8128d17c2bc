"""Point 13: the first of the halls that move fewest cells."""

import random
import unittest

from helpers import BAD_DEEDS, BAD_RULES, GOOD, RULES, Refusals, some_deeds
from writeways.errors import BadDeed, BadHands, BadRoom, BadRule
from writeways.halls import told
from writeways.least import least

BACK_IN = (1, 1, "back", "in", "late")
BACK_BY = (1, 1, "back", "by", "late")
THROUGH_IN = (1, 1, "through", "in", "late")
THROUGH_BY = (1, 1, "through", "by", "late")


def cells_of(moves):
    total = 0
    for blocks_brought, blocks_home, single_cells in moves:
        total += 4 * blocks_brought + 4 * blocks_home + single_cells
    return total


class ByHand(unittest.TestCase):
    def test_of_one_hall(self):
        for rules, deeds, cells in (
            ([BACK_IN], [], 0),
            ([BACK_IN], [("look", 0, 5)], 4),
            # A bring, and settled a home.
            ([BACK_IN], [("set", 0, 5, 1)], 8),
            ([BACK_IN], [("set", 0, 5, 1), ("set", 0, 6, 1)], 8),
            ([THROUGH_IN], [("set", 0, 5, 1), ("set", 0, 6, 1)], 6),
            ([THROUGH_BY], [("set", 0, 5, 1), ("set", 0, 6, 1)], 2),
            ([BACK_BY], [("look", 0, 5), ("set", 0, 5, 1)], 8),
            # Each level counts: a bring and a home at both.
            ([BACK_IN, BACK_IN], [("set", 0, 5, 1)], 16),
            ([THROUGH_BY, THROUGH_BY, THROUGH_BY], [("set", 0, 5, 1)], 3),
            # A cell at level 0, a bring and a home at level 1.
            ([THROUGH_BY, BACK_IN], [("set", 0, 5, 1)], 9),
        ):
            with self.subTest(rules=rules, deeds=deeds):
                self.assertEqual(least([rules], 1, deeds), (0, cells))

    def test_the_fewest_is_told_wherever_it_stands(self):
        deeds = [("set", 0, 5, 1), ("set", 0, 6, 1)]
        self.assertEqual(least([[BACK_IN], [THROUGH_IN], [THROUGH_BY]], 1, deeds), (2, 2))
        self.assertEqual(least([[BACK_IN], [THROUGH_BY], [THROUGH_IN]], 1, deeds), (1, 2))
        self.assertEqual(least([[THROUGH_BY], [BACK_IN], [THROUGH_IN]], 1, deeds), (0, 2))
        self.assertEqual(least([[BACK_IN]] * 5 + [[THROUGH_BY]], 1, deeds), (5, 2))

    def test_settling_counts(self):
        # Not settled the first would move 4, settled it moves 8.
        deeds = [("set", 0, 5, 1), ("set", 0, 6, 1)]
        self.assertEqual(least([[BACK_IN], [THROUGH_IN]], 1, deeds), (1, 6))

    def test_of_those_that_move_as_few_the_first(self):
        deeds = [("look", 0, 0), ("look", 0, 4), ("look", 0, 0)]
        wide = (1, 2, "back", "in", "late")
        self.assertEqual(least([[BACK_IN], [wide], [wide], [THROUGH_BY]], 1, deeds), (1, 8))
        self.assertEqual(least([[BACK_IN], [BACK_IN], [wide, wide]], 1, deeds), (0, 12))
        self.assertEqual(least([[BACK_IN]] * 6, 1, deeds), (0, 12))
        self.assertEqual(least([[BACK_IN, GOOD], [GOOD]], 3, []), (0, 0))

    def test_hands_have_rooms_of_their_own(self):
        deeds = [("look", 0, 0), ("look", 1, 0), ("look", 2, 0)]
        self.assertEqual(least([[BACK_IN]], 3, deeds), (0, 12))
        # One bring at each of two levels, then two more at level 0.
        self.assertEqual(least([[BACK_IN, BACK_IN]], 3, deeds), (0, 16))


class AgainstTold(unittest.TestCase):
    def test_the_count_and_the_first(self):
        chance = random.Random(13)
        for at in range(150):
            hands = chance.randrange(1, 4)
            some = [[chance.choice(RULES) for level in range(chance.randrange(1, 4))] for hall in range(4)]
            # Halls that stand there twice move as few.
            halls = [chance.choice(some) for hall in range(chance.randrange(1, 7))]
            deeds = some_deeds(chance, hands, chance.randrange(201), chance.choice((8, 24, 64)))
            counts = [cells_of(told(rules, hands, deeds)[1]) for rules in halls]
            self.assertEqual(least(halls, hands, deeds), (counts.index(min(counts)), min(counts)))


class Refused(Refusals):
    def test_one_to_six_halls(self):
        for count in (1, 2, 3, 4, 5, 6):
            self.assertEqual(least([[GOOD]] * count, 1, []), (0, 0))

    def test_other_counts(self):
        self.refuses(BadRoom, least, [], 1, [])
        for count in (7, 8, 20):
            self.refuses(BadRoom, least, [[GOOD]] * count, 1, [])

    def test_one_to_three_rules(self):
        for count in (1, 2, 3):
            self.assertEqual(least([[GOOD], [GOOD] * count], 1, [("look", 0, 0)]), (0, 4))
        for at in (0, 1, 5):
            self.refuses_number(BadRule, 0, least, [[GOOD]] * at + [[]], 1, [])
            for count in (4, 5):
                self.refuses_number(BadRule, 3, least, [[GOOD]] * at + [[GOOD] * count], 1, [])

    def test_the_first_bad_hall(self):
        for bad in BAD_RULES:
            with self.subTest(bad=bad):
                self.refuses_number(BadRule, 0, least, [[bad]], 1, [])
                self.refuses_number(BadRule, 1, least, [[GOOD], [GOOD, bad], [bad]], 1, [])
                self.refuses_number(BadRule, 2, least, [[GOOD, GOOD, GOOD], [GOOD, GOOD, bad], [bad], []], 1, [])
                self.refuses_number(BadRule, 1, least, [[GOOD]] * 5 + [[GOOD, bad, bad]], 1, [])
        self.refuses_number(BadRule, 3, least, [[GOOD] * 4, []], 1, [])
        self.refuses_number(BadRule, 0, least, [[], [GOOD] * 4], 1, [])

    def test_hands(self):
        for hands in (1, 2, 3):
            self.assertEqual(least([[GOOD]], hands, [("look", hands - 1, 0)]), (0, 4))
            self.refuses_number(BadDeed, 1, least, [[GOOD]], hands, [("look", 0, 0), ("look", hands, 0)])
        for hands in (-1, 0, 4, 5):
            self.refuses(BadHands, least, [[GOOD]], hands, [])

    def test_deeds(self):
        for bad in BAD_DEEDS:
            for at in (0, 2):
                with self.subTest(bad=bad, at=at):
                    deeds = [("set", 1, 63, 999)] * at + [bad, ()]
                    self.refuses_number(BadDeed, at, least, [[GOOD], [GOOD]], 2, deeds)

    def test_two_hundred_deeds_and_one_more(self):
        deeds = [("set", 0, at % 64, at) for at in range(200)]
        self.assertEqual(least([[BACK_IN], [THROUGH_BY]], 1, deeds), (1, 200))
        for more in ([("look", 0, 0)], [()], [("look", 0, 0)] * 4):
            self.refuses_number(BadDeed, 200, least, [[GOOD]], 1, deeds + more)
        self.refuses_number(BadDeed, 199, least, [[GOOD]], 1, deeds[:199] + [()] + deeds)

    def test_what_is_handed_in_first_is_refused_first(self):
        self.refuses(BadRoom, least, [], 0, [()])
        self.refuses(BadRoom, least, [[()]] * 7, 0, [()])
        self.refuses(BadRule, least, [[GOOD], [()]], 0, [()])
        self.refuses(BadRule, least, [[GOOD], [()]], 1, [()])
        self.refuses(BadHands, least, [[GOOD], [GOOD]], 0, [()])
        self.refuses(BadHands, least, [[GOOD], [GOOD]], 4, [("look", 0, 64)])


if __name__ == "__main__":
    unittest.main()
