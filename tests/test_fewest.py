"""Point 11, fewest and judged, and what point 12 says of fewest."""

import itertools
import random
import unittest

from helpers import RULES, Refusals, some_blocks
from writeways.depths import depths, late_brings
from writeways.errors import BadDeed, BadLeavings, BadWays
from writeways.fewest import fewest, judged
from writeways.halls import passed


def all_leavings(blocks, ways):
    """Every row of leavings that can be, with what it brings."""
    states = [((), (), 0)]
    for block in blocks:
        later = []
        for held, leavings, brings in states:
            if block in held:
                later.append((held, leavings, brings))
            elif len(held) < ways:
                later.append((held + (block,), leavings, brings + 1))
            else:
                for leaver in held:
                    kept = tuple(other for other in held if other != leaver)
                    later.append((kept + (block,), leavings + (leaver,), brings + 1))
        states = later
    return {leavings: brings for held, leavings, brings in states}


def first_wrong(tries, leavings):
    """The number of the first leaving by which no row that can be begins, lacks or ends."""
    for number in range(len(leavings)):
        if not any(row[:number + 1] == leavings[:number + 1] for row in tries):
            return number
    return None if leavings in tries else len(leavings)


def fewest_on_the_way(blocks, ways):
    """The fewest brings by all that can be held, each kept once with its fewest."""
    states = {frozenset(): 0}
    for block in blocks:
        later = {}
        for held, brings in states.items():
            if block in held:
                options = [(held, brings)]
            elif len(held) < ways:
                options = [(held | {block}, brings + 1)]
            else:
                options = [(held - {leaver} | {block}, brings + 1) for leaver in held]
            for kept, count in options:
                later[kept] = min(count, later.get(kept, count))
        states = later
    return min(states.values())


def late_leavings(blocks, ways):
    """Who leaves by the late rule: of those held the one whose last look is the longest ago."""
    held, leavings = [], []
    for at, block in enumerate(blocks):
        if block not in held:
            if len(held) == ways:
                leavings.append(min(held, key=lambda other: max(back for back in range(at) if blocks[back] == other)))
                held.remove(leavings[-1])
            held.append(block)
    return leavings


class Fewest(unittest.TestCase):
    def test_by_hand(self):
        for blocks, ways, told in (
            ([], 1, (0, [])),
            ([], 8, (0, [])),
            ([5], 1, (1, [])),
            ([5, 5, 5], 1, (1, [])),
            ([5, 6], 1, (2, [5])),
            ([5, 6, 5], 1, (3, [5, 6])),
            ([5, 6, 5], 2, (2, [])),
            # 5 comes again, so 6 leaves for 7.
            ([5, 6, 7, 5], 2, (3, [6])),
            # 5 never comes again, so it leaves for 7.
            ([5, 6, 7, 6, 7, 6, 7], 2, (3, [5])),
            (list(range(8)), 8, (8, [])),
        ):
            with self.subTest(blocks=blocks, ways=ways):
                self.assertEqual(fewest(blocks, ways), told)

    def test_brings_by_hand(self):
        round_and_round = [0, 1, 2, 3] * 3
        # By two ways only the looks 4, 7 and 10 find their block there, by three the looks 4, 5, 7, 8, 10 and 11.
        for ways, brings in ((1, 12), (2, 9), (3, 6), (4, 4), (8, 4)):
            self.assertEqual(fewest(round_and_round, ways)[0], brings)
        self.assertEqual(fewest([7, 0, 1, 2, 0, 3, 0, 4, 2, 3, 0, 3, 2], 3)[0], 7)
        self.assertEqual(fewest(list(range(16)), 8)[0], 16)

    def test_against_all_leavings_on_short_lists(self):
        for count in range(7):
            for blocks in itertools.product((3, 0, 15, 8), repeat=count):
                for ways in (1, 2, 3):
                    tries = all_leavings(blocks, ways)
                    brings, leavings = fewest(list(blocks), ways)
                    self.assertEqual(brings, min(tries.values()), (blocks, ways))
                    self.assertEqual(tries.get(tuple(leavings)), brings, (blocks, ways))

    def test_the_late_rule_is_one_of_all_leavings(self):
        for count in range(7):
            for blocks in itertools.product((3, 0, 15, 8), repeat=count):
                found, late = depths(list(blocks)), late_brings(list(blocks))
                for ways in (1, 2, 3):
                    tries, leavings = all_leavings(blocks, ways), late_leavings(blocks, ways)
                    self.assertEqual(tries[tuple(leavings)], late[ways - 1], (blocks, ways))
                    self.assertEqual(judged(list(blocks), ways, leavings), late[ways - 1], (blocks, ways))
                    self.assertGreaterEqual(late[ways - 1], min(tries.values()), (blocks, ways))
                    there = [depth for depth in found if depth is not None and depth < ways]
                    self.assertEqual(count - len(there), late[ways - 1], (blocks, ways))

    def test_against_all_that_can_be_held(self):
        chance = random.Random(11)
        for at in range(60):
            blocks = some_blocks(chance, chance.randrange(8, 60), chance.choice((5, 6, 8)))
            for ways in range(1, 9):
                brings, leavings = fewest(blocks, ways)
                self.assertEqual(brings, fewest_on_the_way(blocks, ways), (blocks, ways))
                self.assertEqual(judged(blocks, ways, leavings), brings)

    def test_long_lists_are_judged_as_told(self):
        chance = random.Random(111)
        for at in range(60):
            blocks = some_blocks(chance, chance.randrange(100, 201), chance.randrange(1, 17))
            for ways in range(1, 9):
                brings, leavings = fewest(blocks, ways)
                self.assertEqual(judged(blocks, ways, leavings), brings)
                self.assertEqual(len(leavings), max(brings - ways, 0))


class NoRuleBringsFewer(unittest.TestCase):
    def test_rooms_of_one_set(self):
        chance = random.Random(112)
        for rule in RULES:
            sets, ways = rule[:2]
            for at in range(6):
                blocks = some_blocks(chance, 200, chance.choice((5, 9, 16)))
                brings = passed(rule, [("look", 4 * block) for block in blocks])
                for own in range(sets):
                    of_set = [block for block in blocks if block % sets == own]
                    brought = [number for word, number in brings if number % sets == own]
                    self.assertGreaterEqual(len(brought), fewest(of_set, ways)[0], rule)
                if sets * ways <= 8:
                    self.assertGreaterEqual(len(brings), fewest(blocks, sets * ways)[0], rule)

    def test_late_brings_and_more_ways(self):
        chance = random.Random(113)
        for at in range(100):
            blocks = some_blocks(chance, chance.randrange(201), chance.randrange(1, 17))
            brings = [fewest(blocks, ways)[0] for ways in range(1, 9)]
            self.assertEqual(brings, sorted(brings, reverse=True))
            for few, late in zip(brings, late_brings(blocks)):
                self.assertLessEqual(few, late)


class Judged(Refusals):
    def test_by_hand(self):
        for blocks, ways, leavings, brings in (
            ([], 1, [], 0),
            ([], 8, [], 0),
            ([4, 4], 1, [], 1),
            ([4, 5, 4], 2, [], 2),
            ([4, 5, 4], 1, [4, 5], 3),
            ([4, 5, 6, 4], 2, [5], 3),
            ([4, 5, 6, 4], 2, [4, 5], 4),
            ([4, 5, 6, 4], 2, [4, 6], 4),
            ([0, 15, 0, 15], 1, [0, 15, 0], 4),
        ):
            with self.subTest(blocks=blocks, leavings=leavings):
                self.assertEqual(judged(blocks, ways, leavings), brings)

    def test_one_that_is_not_there(self):
        for bad in (6, 7, 15, 16, 99, 1000, -1, -2):
            with self.subTest(bad=bad):
                self.refuses_number(BadLeavings, 0, judged, [4, 5, 6, 4], 2, [bad])
                self.refuses_number(BadLeavings, 0, judged, [4, 5, 6, 4], 2, [bad, 5])
                self.refuses_number(BadLeavings, 0, judged, [4, 5, 6, 4], 2, [bad, bad, bad])
        # 4 left already; 7, which is brought, isn't there yet.
        for bad in (4, 7, 0, -1, 16):
            self.refuses_number(BadLeavings, 1, judged, [4, 5, 6, 7], 2, [4, bad])
            self.refuses_number(BadLeavings, 1, judged, [4, 5, 6, 7, 8], 2, [4, bad, 7])

    def test_one_that_lacks(self):
        self.refuses_number(BadLeavings, 0, judged, [4, 5], 1, [])
        self.refuses_number(BadLeavings, 0, judged, list(range(9)), 8, [])
        self.refuses_number(BadLeavings, 1, judged, [4, 5, 6, 4], 2, [4])
        self.refuses_number(BadLeavings, 2, judged, [4, 5, 6, 7, 8, 9], 2, [4, 5])

    def test_one_too_much(self):
        for more in (4, 5, 0, 16, -1):
            self.refuses_number(BadLeavings, 0, judged, [], 1, [more])
            self.refuses_number(BadLeavings, 0, judged, [4, 4], 1, [more])
            self.refuses_number(BadLeavings, 0, judged, [4, 5], 2, [more, more])
            self.refuses_number(BadLeavings, 1, judged, [4, 5, 6, 4], 2, [5, more])
            self.refuses_number(BadLeavings, 1, judged, [4, 5, 6, 4], 2, [5, more, 6])

    def test_all_rows_of_leavings_on_short_lists(self):
        chance = random.Random(114)
        rows = [row for count in range(5) for row in itertools.product((0, 1, 2, 9), repeat=count)]
        for at in range(25):
            blocks = some_blocks(chance, chance.randrange(7), chance.randrange(2, 4))
            for ways in (1, 2):
                tries = all_leavings(blocks, ways)
                for row in rows:
                    wrong = first_wrong(tries, row)
                    if wrong is None:
                        self.assertEqual(judged(blocks, ways, list(row)), tries[row])
                    else:
                        self.refuses_number(BadLeavings, wrong, judged, blocks, ways, list(row))

    def test_many_leavings(self):
        blocks = [at % 16 for at in range(200)]
        self.assertEqual(judged(blocks, 1, blocks[:199]), 200)
        self.refuses_number(BadLeavings, 199, judged, blocks, 1, blocks)
        self.refuses_number(BadLeavings, 198, judged, blocks, 1, blocks[:198])
        self.refuses_number(BadLeavings, 199, judged, blocks, 1, blocks * 3)


class Refused(Refusals):
    def test_each_bad_block_at_its_number(self):
        for bad in (-1, 16, 17, 64, 999):
            for at in (0, 1, 4, 199):
                with self.subTest(bad=bad, at=at):
                    self.refuses_number(BadDeed, at, fewest, [3] * at + [bad, bad], 2)
                    self.refuses_number(BadDeed, at, judged, [3] * at + [bad, bad], 2, [])

    def test_two_hundred_and_one_more(self):
        blocks = [at % 2 for at in range(200)]
        self.assertEqual(fewest(blocks, 1), (200, blocks[:199]))
        self.assertEqual(fewest(blocks, 2), (2, []))
        self.assertEqual(judged(blocks, 2, []), 2)
        for more in ([0], [16], [1] * 7):
            self.refuses_number(BadDeed, 200, fewest, blocks + more, 2)
            self.refuses_number(BadDeed, 200, judged, blocks + more, 2, [])
        self.refuses_number(BadDeed, 199, fewest, blocks[:199] + [-1, 0], 2)
        self.refuses_number(BadDeed, 199, judged, blocks[:199] + [-1, 0], 2, [])

    def test_one_to_eight_ways(self):
        for ways in range(1, 9):
            self.assertEqual(fewest(list(range(ways)) * 2, ways), (ways, []))
            self.assertEqual(judged(list(range(ways)) * 2, ways, []), ways)
            brings, leavings = fewest(list(range(ways + 1)), ways)
            self.assertEqual((brings, len(leavings)), (ways + 1, 1))
            self.assertIn(leavings[0], range(ways))

    def test_other_ways(self):
        for ways in (-8, -1, 0, 9, 10, 16, 100):
            with self.subTest(ways=ways):
                self.refuses(BadWays, fewest, [], ways)
                self.refuses(BadWays, fewest, [1, 2], ways)
                self.refuses(BadWays, judged, [], ways, [])
                self.refuses(BadWays, judged, [1, 2], ways, [])

    def test_what_is_handed_in_first_is_refused_first(self):
        self.refuses_number(BadDeed, 1, fewest, [0, 16], 0)
        self.refuses_number(BadDeed, 1, judged, [0, 16], 9, [5])
        self.refuses_number(BadDeed, 1, judged, [0, 16], 1, [5])
        self.refuses(BadWays, judged, [0, 1], 9, [5])
        self.refuses(BadWays, judged, [0, 1], 0, [])


if __name__ == "__main__":
    unittest.main()
