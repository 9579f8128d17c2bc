"""Point 8: plain and told."""

import random
import unittest

from helpers import RULES, some_deeds
from writeways.halls import Hall, plain, told


class Plain(unittest.TestCase):
    def test_looks_and_cells(self):
        deeds = [
            ("look", 0, 5), ("set", 1, 5, 42), ("look", 0, 5), ("look", 2, 6), ("set", 2, 5, 43), ("set", 0, 63, 1),
            ("look", 1, 5), ("look", 1, 63),
        ]
        cells = [0] * 64
        cells[5], cells[63] = 43, 1
        self.assertEqual(plain(3, deeds), ([0, 42, 0, 43, 1], cells))

    def test_a_number_set_to_nought_is_told(self):
        deeds = [("set", 0, 5, 42), ("set", 0, 5, 0), ("look", 0, 5)]
        self.assertEqual(plain(1, deeds), ([0], [0] * 64))
        self.assertEqual(told([RULES[0]], 1, deeds)[0], [0])


class ToldOfAHall(unittest.TestCase):
    def test_moves_are_of_the_settled_hall(self):
        deeds = [("set", 0, 5, 42), ("look", 1, 20), ("set", 1, 21, 7)]
        rules = [(1, 2, "back", "in", "late"), (1, 4, "back", "in", "late")]
        cells = [0] * 64
        cells[5], cells[21] = 42, 7
        self.assertEqual(told(rules, 2, deeds), ([0], [(2, 2, 0), (2, 2, 0)], cells))

    def test_told_is_as_a_hall_does(self):
        chance = random.Random(8)
        for count in (1, 2, 3):
            for hands in (1, 2, 3):
                rules = [chance.choice(RULES) for at in range(count)]
                deeds = some_deeds(chance, hands, 120, 64)
                hall = Hall(rules, hands)
                looks = []
                for word, hand, place, *number in deeds:
                    if word == "look":
                        looks.append(hall.look(hand, place))
                    else:
                        hall.change(hand, place, *number)
                hall.settle()
                self.assertEqual(told(rules, hands, deeds), (looks, hall.moves(), hall.far()))

    def test_as_plainly_by_each_rule_and_hands(self):
        chance = random.Random(81)
        for rule in RULES:
            for hands in (1, 2, 3):
                deeds = some_deeds(chance, hands, 200, 48)
                looks, moves, far = told([rule], hands, deeds)
                self.assertEqual((looks, far), plain(hands, deeds), (rule, hands))

    def test_as_plainly_by_rows_of_rules(self):
        chance = random.Random(82)
        for at in range(600):
            rules = [chance.choice(RULES) for level in range(chance.randrange(2, 4))]
            hands = chance.randrange(1, 4)
            deeds = some_deeds(chance, hands, chance.randrange(1, 201), chance.choice((16, 32, 64)))
            looks, moves, far = told(rules, hands, deeds)
            self.assertEqual((looks, far), plain(hands, deeds), (rules, hands))
            self.assertEqual(len(moves), len(rules))


if __name__ == "__main__":
    unittest.main()
