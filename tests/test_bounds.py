"""Points 2 and 3: what rules, hands and deeds are, and what is refused, with which number."""

import unittest

from helpers import BAD_DEEDS, BAD_RULES, GOOD, RULES, Refusals
from writeways.errors import BadDeed, BadHand, BadHands, BadNumber, BadPlace, BadRoom, BadRule
from writeways.halls import Hall, passed, plain, told


class Rules(Refusals):
    def test_every_rule_within_the_bounds_is_taken(self):
        count = 0
        for rule in RULES:
            hall = Hall([rule], 1)
            self.assertEqual(hall.near(0, 0), [[]] * rule[0])
            self.assertEqual(passed(rule, []), [])
            count += 1
        self.assertEqual(count, 96)

    def test_ways_bound_what_is_held(self):
        for ways in (1, 2, 3, 4):
            hall = Hall([(1, ways, "back", "in", "first")], 1)
            for block in range(6):
                hall.look(0, 4 * block)
            self.assertEqual([line[0] for line in hall.near(0, 0)[0]], list(range(6 - ways, 6)))

    def test_sets_part_what_is_held(self):
        for sets in (1, 2, 4):
            hall = Hall([(sets, 4, "back", "in", "first")], 1)
            for block in (5, 2, 7, 4):
                hall.look(0, 4 * block)
            held = [[line[0] for line in row] for row in hall.near(0, 0)]
            self.assertEqual(held, [[block for block in (5, 2, 7, 4) if block % sets == at] for at in range(sets)])

    def test_one_to_three_rules(self):
        for count in (1, 2, 3):
            self.assertEqual(Hall([GOOD] * count, 1).moves(), [(0, 0, 0)] * count)
            self.assertEqual(told([GOOD] * count, 1, []), ([], [(0, 0, 0)] * count, [0] * 64))

    def test_no_rule(self):
        self.refuses_number(BadRule, 0, Hall, [], 1)
        self.refuses_number(BadRule, 0, told, [], 1, [])

    def test_a_fourth_rule(self):
        for count in (4, 5, 9):
            self.refuses_number(BadRule, 3, Hall, [GOOD] * count, 1)
            self.refuses_number(BadRule, 3, told, [GOOD] * count, 1, [])
        self.refuses_number(BadRule, 3, Hall, [GOOD, GOOD, GOOD, ()], 1)
        self.refuses_number(BadRule, 1, Hall, [GOOD, (), GOOD, GOOD], 1)

    def test_each_bad_rule_at_each_place(self):
        for bad in BAD_RULES:
            with self.subTest(bad=bad):
                self.refuses_number(BadRule, 0, Hall, [bad], 1)
                self.refuses_number(BadRule, 0, Hall, [bad, GOOD], 1)
                self.refuses_number(BadRule, 1, Hall, [GOOD, bad], 1)
                self.refuses_number(BadRule, 2, Hall, [GOOD, GOOD, bad], 1)
                self.refuses_number(BadRule, 1, Hall, [GOOD, bad, bad], 1)
                self.refuses_number(BadRule, 1, told, [GOOD, bad], 1, [])
                self.refuses_number(BadRule, 0, passed, bad, [])


class Hands(Refusals):
    def test_one_to_three(self):
        for hands in (1, 2, 3):
            hall = Hall([GOOD], hands)
            for hand in range(hands):
                self.assertEqual(hall.look(hand, 0), 0)
                self.assertEqual(hall.near(0, hand), [[(0, (0, 0, 0, 0), False)], []])
            self.refuses(BadHand, hall.look, hands, 0)
            self.assertEqual(plain(hands, [("look", hands - 1, 0)]), ([0], [0] * 64))
            self.assertEqual(told([GOOD], hands, [("look", hands - 1, 0)]), ([0], [(1, 0, 0)], [0] * 64))

    def test_others_are_refused(self):
        for hands in (-1, 0, 4, 5, 100):
            with self.subTest(hands=hands):
                self.refuses(BadHands, Hall, [GOOD], hands)
                self.refuses(BadHands, plain, hands, [])
                self.refuses(BadHands, told, [GOOD], hands, [])


class Deeds(Refusals):
    def test_bounds_that_hold(self):
        deeds = [
            ("set", 0, 0, 0), ("set", 1, 63, 999), ("look", 1, 0), ("look", 0, 63), ("set", 0, 0, 999), ("look", 1, 0),
        ]
        cells = [999] + [0] * 62 + [999]
        self.assertEqual(plain(2, deeds), ([0, 999, 999], cells))
        looks, moves, far = told([GOOD], 2, deeds)
        self.assertEqual((looks, far), ([0, 999, 999], cells))

    def test_no_deeds(self):
        self.assertEqual(plain(1, []), ([], [0] * 64))

    def test_each_bad_deed_at_its_number(self):
        good = ("set", 1, 9, 5)
        for bad in BAD_DEEDS:
            for at in (0, 1, 3):
                with self.subTest(bad=bad, at=at):
                    deeds = [good] * at + [bad, good, ()]
                    self.refuses_number(BadDeed, at, plain, 2, deeds)
                    self.refuses_number(BadDeed, at, told, [GOOD], 2, deeds)

    def test_a_deed_is_of_a_counted_hand(self):
        for hands in (1, 2, 3):
            for deed in (("look", hands, 0), ("set", hands, 0, 1)):
                self.refuses_number(BadDeed, 0, plain, hands, [deed])
                self.refuses_number(BadDeed, 0, told, [GOOD], hands, [deed])

    def test_two_hundred_and_one_more(self):
        deeds = [("set", 0, at % 64, at) for at in range(200)]
        self.assertEqual(plain(1, deeds)[1][7], 199)
        self.assertEqual(told([GOOD], 1, deeds)[2], plain(1, deeds)[1])
        for more in ([("look", 0, 0)], [()], [("look", 0, 0)] * 5):
            self.refuses_number(BadDeed, 200, plain, 1, deeds + more)
            self.refuses_number(BadDeed, 200, told, [GOOD], 1, deeds + more)
        self.refuses_number(BadDeed, 199, plain, 1, deeds[:199] + [()] + deeds)
        self.refuses_number(BadDeed, 199, told, [GOOD], 1, deeds[:199] + [()] + deeds)


class HallArguments(Refusals):
    def test_bounds_that_hold(self):
        hall = Hall([GOOD, GOOD, GOOD], 3)
        self.assertIsNone(hall.change(0, 0, 0))
        self.assertIsNone(hall.change(2, 63, 999))
        self.assertEqual(hall.look(2, 0), 0)
        self.assertEqual(hall.look(0, 63), 999)
        for level in (0, 1, 2):
            for hand in (0, 1, 2):
                self.assertEqual(len(hall.near(level, hand)), 2)

    def test_bad_hand(self):
        for hands in (1, 2, 3):
            hall = Hall([GOOD, GOOD], hands)
            for hand in (-1, hands, hands + 1, 50):
                self.refuses(BadHand, hall.look, hand, 0)
                self.refuses(BadHand, hall.change, hand, 0, 1)
                self.refuses(BadHand, hall.near, 0, hand)
                self.refuses(BadHand, hall.near, 1, hand)

    def test_bad_place(self):
        hall = Hall([GOOD], 2)
        for place in (-1, -64, 64, 65, 999):
            self.refuses(BadPlace, hall.look, 1, place)
            self.refuses(BadPlace, hall.change, 1, place, 1)

    def test_bad_number(self):
        hall = Hall([GOOD], 2)
        for number in (-1, -999, 1000, 1001):
            self.refuses(BadNumber, hall.change, 1, 0, number)

    def test_bad_room(self):
        for count in (1, 2, 3):
            hall = Hall([GOOD] * count, 2)
            for level in (-1, -count, count, count + 1):
                self.refuses(BadRoom, hall.near, level, 0)

    def test_what_is_handed_in_first_is_refused_first(self):
        hall = Hall([GOOD], 1)
        self.refuses(BadHand, hall.look, 1, 64)
        self.refuses(BadHand, hall.change, 1, 64, 1000)
        self.refuses(BadPlace, hall.change, 0, 64, 1000)
        self.refuses(BadRoom, hall.near, 1, 1)
        self.refuses(BadRule, Hall, [()], 0)
        self.refuses(BadRule, told, [()], 0, [()])
        self.refuses(BadHands, told, [GOOD], 0, [()])
        self.refuses(BadHands, plain, 0, [()])
        self.refuses(BadRule, passed, (), [()])


if __name__ == "__main__":
    unittest.main()
