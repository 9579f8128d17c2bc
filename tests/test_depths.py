"""Point 10, depths and late_brings, and what point 12 says of late_brings and of leave "late"."""

import itertools
import random
import unittest

from helpers import RULES, Refusals, some_blocks, some_deeds
from writeways.depths import depths, late_brings
from writeways.errors import BadDeed
from writeways.halls import Hall, passed

BAD_BLOCKS = (-1, -16, 16, 17, 63, 64, 200, 1000)


def plain_depths(blocks):
    """Point 10 as it stands: look back for the same one, and count the unlike others between."""
    told = []
    for at, block in enumerate(blocks):
        same = [back for back in range(at) if blocks[back] == block]
        told.append(len(set(blocks[same[-1] + 1:at])) if same else None)
    return told


def plain_brings(blocks, ways):
    """By stamps of the last look: the oldest leaves."""
    stamps, brings = {}, 0
    for at, block in enumerate(blocks):
        if block not in stamps:
            brings += 1
            if len(stamps) == ways:
                del stamps[min(stamps, key=stamps.get)]
        stamps[block] = at
    return brings


def room_brings(rule, blocks):
    return len(passed(rule, [("look", 4 * block) for block in blocks]))


class Depths(unittest.TestCase):
    def test_by_hand(self):
        for blocks, told in (
            ([], []),
            ([0], [None]),
            ([15], [None]),
            ([7, 7], [None, 0]),
            ([7, 7, 7], [None, 0, 0]),
            ([3, 5, 3], [None, None, 1]),
            ([3, 5, 5, 5, 3], [None, None, 0, 0, 1]),
            ([3, 5, 3, 5, 3], [None, None, 1, 1, 1]),
            # The last same one counts, not an earlier one.
            ([3, 5, 6, 3, 9, 3], [None, None, None, 2, None, 1]),
            # Unlike others: 5 and 6 stand there twice and count once each.
            ([3, 5, 6, 5, 6, 3], [None, None, None, 1, 1, 2]),
            ([0, 1, 2, 3, 0, 1, 3, 0], [None, None, None, None, 3, 3, 2, 2]),
        ):
            self.assertEqual(depths(blocks), told)

    def test_all_blocks_come_round(self):
        blocks = list(range(16))
        self.assertEqual(depths(blocks * 2), [None] * 16 + [15] * 16)
        self.assertEqual(depths(blocks + blocks[::-1]), [None] * 16 + list(range(16)))

    def test_as_plainly_on_all_short_lists(self):
        for count in range(7):
            for blocks in itertools.product((2, 0, 13), repeat=count):
                self.assertEqual(depths(list(blocks)), plain_depths(blocks))

    def test_as_plainly_on_long_lists(self):
        chance = random.Random(10)
        for at in range(150):
            blocks = some_blocks(chance, chance.randrange(201), chance.randrange(1, 17))
            self.assertEqual(depths(blocks), plain_depths(blocks))


class LateBrings(unittest.TestCase):
    def test_by_hand(self):
        for blocks, told in (
            ([], [0] * 16),
            ([9], [1] * 16),
            ([9, 9, 9], [1] * 16),
            ([9, 4, 9], [3] + [2] * 15),
            # None, None, None, 2, None, 1
            ([3, 5, 6, 3, 9, 3], [6, 5] + [4] * 14),
            # Three of four never have the next; four hold all.
            ([0, 1, 2, 3] * 3, [12, 12, 12] + [4] * 13),
        ):
            self.assertEqual(late_brings(blocks), told)

    def test_all_blocks_come_round(self):
        blocks = list(range(16))
        self.assertEqual(late_brings(blocks * 3), [48] * 15 + [16])
        self.assertEqual(late_brings(blocks + blocks[::-1]), list(range(31, 15, -1)))

    def test_as_plainly(self):
        chance = random.Random(101)
        for at in range(150):
            blocks = some_blocks(chance, chance.randrange(201), chance.randrange(1, 17))
            self.assertEqual(late_brings(blocks), [plain_brings(blocks, ways) for ways in range(1, 17)])

    def test_as_rooms_of_one_set_bring(self):
        chance = random.Random(102)
        for at in range(30):
            blocks = some_blocks(chance, 200, chance.choice((4, 7, 16)))
            told = late_brings(blocks)
            for write, take in itertools.product(("through", "back"), ("in", "by")):
                for ways in (1, 2, 3, 4):
                    self.assertEqual(room_brings((1, ways, write, take, "late"), blocks), told[ways - 1])

    def test_more_ways_never_bring_more(self):
        chance = random.Random(103)
        for at in range(100):
            blocks = some_blocks(chance, chance.randrange(201), chance.randrange(1, 17))
            told = late_brings(blocks)
            self.assertEqual(told, sorted(told, reverse=True))
            self.assertEqual(told[15], len(set(blocks)))


class MoreWaysHoldAll(unittest.TestCase):
    def test_behind_each_deed(self):
        chance = random.Random(12)
        for rule in RULES:
            sets, ways, write, take, leave = rule
            if leave == "first" or ways == 4:
                continue
            fewer, more = Hall([rule], 1), Hall([(sets, ways + 1, write, take, leave)], 1)
            for word, hand, place, *number in some_deeds(chance, 1, 100, 64):
                for hall in (fewer, more):
                    hall.look(0, place) if word == "look" else hall.change(0, place, *number)
                for row, wider in zip(fewer.near(0, 0), more.near(0, 0)):
                    self.assertLessEqual({line[0] for line in row}, {line[0] for line in wider}, rule)


class Refused(Refusals):
    def test_each_bad_block_at_its_number(self):
        for work in (depths, late_brings):
            for bad in BAD_BLOCKS:
                for at in (0, 1, 5, 199):
                    with self.subTest(work=work.__name__, bad=bad, at=at):
                        self.refuses_number(BadDeed, at, work, [15] * at + [bad, 0, bad])

    def test_bounds_that_hold(self):
        self.assertEqual(depths([0, 15, 0, 15]), [None, None, 1, 1])
        self.assertEqual(late_brings([0, 15, 0, 15]), [4] + [2] * 15)

    def test_two_hundred_and_one_more(self):
        blocks = [at % 16 for at in range(200)]
        self.assertEqual(depths(blocks), [None] * 16 + [15] * 184)
        self.assertEqual(late_brings(blocks), [200] * 15 + [16])
        for work in (depths, late_brings):
            for more in ([0], [16], [0] * 9):
                self.refuses_number(BadDeed, 200, work, blocks + more)
            self.refuses_number(BadDeed, 199, work, blocks[:199] + [16, 0])


if __name__ == "__main__":
    unittest.main()
