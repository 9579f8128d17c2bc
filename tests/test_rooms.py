"""Points 4 and 5: one room by each rule, worked out by hand."""

import unittest

from writeways.halls import Hall, passed

NONE = (0, 0, 0, 0)


def do(hall, deeds):
    for word, place, *number in deeds:
        if word == "look":
            hall.look(0, place)
        else:
            hall.change(0, place, *number)


def words(hall):
    return [f"{level} {word} {number}" for level, hand, word, number in hall.log()]


def held(hall, level):
    """For each set the blocks, who leaves first ahead, with a + if dirty."""
    return [" ".join(f"{block}{'+' * dirty}" for block, numbers, dirty in row) for row in hall.near(level, 0)]


def cells(**given):
    far = [0] * 64
    for name, number in given.items():
        far[int(name[1:])] = number
    return far


DEEDS = (
    ("set", 0, 1), ("look", 4), ("set", 5, 2), ("look", 0), ("set", 8, 3), ("look", 7), ("look", 12),
)

# (write, take, leave): what goes to the next room, what is held, what the far room has.
ONE_ROOM = {
    ("back", "in", "first"): (
        "bring 0, bring 1, home 0, bring 2, home 1, bring 3",
        [(2, (3, 0, 0, 0), True), (3, NONE, False)],
        cells(c0=1, c5=2),
    ),
    ("back", "in", "late"): (
        "bring 0, bring 1, home 1, bring 2, home 0, bring 1, home 2, bring 3",
        [(1, (0, 2, 0, 0), False), (3, NONE, False)],
        cells(c0=1, c5=2, c8=3),
    ),
    ("back", "by", "first"): (
        "cell 0, bring 1, bring 0, cell 8, home 1, bring 3",
        [(0, (1, 0, 0, 0), False), (3, NONE, False)],
        cells(c0=1, c5=2, c8=3),
    ),
    ("back", "by", "late"): (
        "cell 0, bring 1, bring 0, cell 8, bring 3",
        [(1, (0, 2, 0, 0), True), (3, NONE, False)],
        cells(c0=1, c8=3),
    ),
    ("through", "in", "first"): (
        "bring 0, cell 0, bring 1, cell 5, bring 2, cell 8, bring 3",
        [(2, (3, 0, 0, 0), False), (3, NONE, False)],
        cells(c0=1, c5=2, c8=3),
    ),
    ("through", "in", "late"): (
        "bring 0, cell 0, bring 1, cell 5, bring 2, cell 8, bring 1, bring 3",
        [(1, (0, 2, 0, 0), False), (3, NONE, False)],
        cells(c0=1, c5=2, c8=3),
    ),
    ("through", "by", "first"): (
        "cell 0, bring 1, cell 5, bring 0, cell 8, bring 3",
        [(0, (1, 0, 0, 0), False), (3, NONE, False)],
        cells(c0=1, c5=2, c8=3),
    ),
    ("through", "by", "late"): (
        "cell 0, bring 1, cell 5, bring 0, cell 8, bring 3",
        [(1, (0, 2, 0, 0), False), (3, NONE, False)],
        cells(c0=1, c5=2, c8=3),
    ),
}

ASKS = [
    ("home", 0), ("bring", 1), ("cell", 4), ("home", 0), ("look", 8), ("bring", 0), ("home", 1), ("bring", 3),
    ("bring", 0), ("bring", 5), ("bring", 0),
]

PASSED = {
    ("back", "in", "first"): "bring 1, home 0, bring 2, home 1, bring 0, bring 3, home 1, bring 0, bring 5",
    ("back", "in", "late"): "bring 1, home 1, bring 2, home 0, bring 3, home 1, bring 0, bring 5",
    ("back", "by", "first"): "home 0, bring 1, home 0, bring 2, home 1, bring 0, home 1, bring 3, bring 5, bring 0",
    ("back", "by", "late"): "home 0, bring 1, home 0, bring 2, home 1, bring 0, home 1, bring 3, bring 5",
    ("through", "in", "first"):
        "home 0, bring 1, cell 4, home 0, bring 2, bring 0, home 1, bring 3, bring 0, bring 5",
    ("through", "in", "late"): "home 0, bring 1, cell 4, home 0, bring 2, home 1, bring 3, bring 0, bring 5",
    ("through", "by", "first"):
        "home 0, bring 1, cell 4, home 0, bring 2, bring 0, home 1, bring 3, bring 5, bring 0",
    ("through", "by", "late"): "home 0, bring 1, cell 4, home 0, bring 2, bring 0, home 1, bring 3, bring 5",
}


class EachRule(unittest.TestCase):
    def test_deeds_in_one_set_of_two_ways(self):
        for kind, (gone, lines, far) in ONE_ROOM.items():
            with self.subTest(kind=kind):
                hall = Hall([(1, 2, *kind)], 1)
                do(hall, DEEDS)
                self.assertEqual(", ".join(words(hall)), ", ".join("0 " + word for word in gone.split(", ")))
                self.assertEqual(hall.near(0, 0), [lines])
                self.assertEqual(hall.far(), far)

    def test_sets_are_rooms_of_their_own(self):
        # The blocks of DEEDS, fourfold, are all in set 0 of four; those of set 1 don't come in their way.
        for kind, (gone, lines, far) in ONE_ROOM.items():
            with self.subTest(kind=kind):
                hall = Hall([(4, 2, *kind)], 1)
                hall.look(0, 4)
                for deed in DEEDS:
                    word, place, *number = deed
                    do(hall, [(word, place // 4 * 16 + place % 4, *number)])
                    hall.look(0, 20)
                row = [(4 * block, numbers, dirty) for block, numbers, dirty in lines]
                self.assertEqual(hall.near(0, 0), [row, hall.near(0, 0)[1], [], []])
                self.assertEqual([line[0] for line in hall.near(0, 0)[1]], [1, 5])

    def test_asks_of_a_nearer_room(self):
        for kind, gone in PASSED.items():
            with self.subTest(kind=kind):
                got = passed((1, 2, *kind), ASKS)
                self.assertEqual(", ".join(f"{word} {number}" for word, number in got), gone)


class Reaching(unittest.TestCase):
    def test_a_line_has_the_numbers_of_its_block(self):
        hall = Hall([(1, 1, "through", "by", "first")], 1)
        do(hall, [("set", 8, 1), ("set", 9, 2), ("set", 10, 3), ("set", 11, 4), ("set", 12, 5), ("set", 7, 6)])
        self.assertEqual([hall.look(0, place) for place in (8, 9, 10, 11)], [1, 2, 3, 4])
        self.assertEqual(hall.near(0, 0), [[(2, (1, 2, 3, 4), False)]])
        self.assertEqual(hall.moves(), [(1, 0, 6)])

    def test_by_first_a_touch_counts_for_nothing(self):
        hall = Hall([(1, 3, "back", "in", "first")], 1)
        do(hall, [("look", 0), ("look", 4), ("look", 8), ("look", 0), ("set", 1, 5)])
        self.assertEqual(held(hall, 0), ["0+ 1 2"])
        do(hall, [("look", 12)])
        self.assertEqual(held(hall, 0), ["1 2 3"])

    def test_by_late_looks_and_sets_touch(self):
        hall = Hall([(1, 3, "back", "in", "late")], 1)
        do(hall, [("look", 0), ("look", 4), ("look", 8), ("look", 0)])
        self.assertEqual(held(hall, 0), ["1 2 0"])
        do(hall, [("set", 5, 5)])
        self.assertEqual(held(hall, 0), ["2 0 1+"])
        do(hall, [("look", 12)])
        self.assertEqual(held(hall, 0), ["0 1+ 3"])

    def test_by_late_a_set_that_is_written_through_touches(self):
        for take in ("in", "by"):
            hall = Hall([(1, 3, "through", take, "late")], 1)
            do(hall, [("look", 0), ("look", 4), ("look", 8), ("set", 1, 5)])
            self.assertEqual(held(hall, 0), ["1 2 0"])

    def test_only_a_dirty_one_goes_home_ahead(self):
        hall = Hall([(1, 1, "back", "in", "late")], 1)
        do(hall, [("look", 0), ("look", 4), ("set", 9, 7), ("look", 12)])
        self.assertEqual(words(hall), ["0 bring 0", "0 bring 1", "0 bring 2", "0 home 2", "0 bring 3"])
        self.assertEqual(hall.far(), cells(c9=7))
        self.assertEqual(hall.look(0, 9), 7)

    def test_a_full_set_leaves_the_others_alone(self):
        hall = Hall([(2, 1, "back", "in", "late")], 1)
        do(hall, [("set", 0, 1), ("set", 4, 2), ("set", 8, 3)])
        self.assertEqual(held(hall, 0), ["2+", "1+"])
        self.assertEqual(words(hall), ["0 bring 0", "0 bring 1", "0 home 0", "0 bring 2"])

    def test_a_line_brought_again_is_not_dirty(self):
        hall = Hall([(1, 1, "back", "in", "first")], 1)
        do(hall, [("set", 0, 1), ("look", 4), ("look", 0)])
        self.assertEqual(hall.near(0, 0), [[(0, (1, 0, 0, 0), False)]])
        do(hall, [("look", 4)])
        self.assertEqual(hall.moves(), [(4, 1, 0)])


class Setting(unittest.TestCase):
    def test_back_keeps_the_number_till_the_line_goes(self):
        hall = Hall([(1, 1, "back", "in", "first")], 1)
        do(hall, [("set", 3, 8), ("set", 2, 9)])
        self.assertEqual(hall.near(0, 0), [[(0, (0, 0, 9, 8), True)]])
        self.assertEqual((hall.far(), words(hall)), (cells(), ["0 bring 0"]))

    def test_through_passes_the_number_on_at_once(self):
        hall = Hall([(1, 1, "through", "in", "first")], 1)
        do(hall, [("set", 3, 8), ("set", 2, 9)])
        self.assertEqual(hall.near(0, 0), [[(0, (0, 0, 9, 8), False)]])
        self.assertEqual((hall.far(), words(hall)), (cells(c3=8, c2=9), ["0 bring 0", "0 cell 3", "0 cell 2"]))

    def test_by_passes_only_what_is_not_there(self):
        hall = Hall([(1, 1, "back", "by", "first")], 1)
        do(hall, [("set", 3, 8)])
        self.assertEqual((hall.near(0, 0), hall.far(), words(hall)), ([[]], cells(c3=8), ["0 cell 3"]))
        do(hall, [("look", 0), ("set", 3, 9)])
        self.assertEqual(hall.near(0, 0), [[(0, (0, 0, 0, 9), True)]])
        self.assertEqual((hall.far(), words(hall)), (cells(c3=8), ["0 cell 3", "0 bring 0"]))

    def test_what_passes_by_puts_nobody_out(self):
        hall = Hall([(1, 1, "back", "by", "first")], 1)
        do(hall, [("look", 0), ("set", 0, 1), ("set", 4, 2)])
        self.assertEqual(held(hall, 0), ["0+"])


class FromNearer(unittest.TestCase):
    """The room asked is at level 1; the nearer one holds two lines and sends the first home."""

    NEARER = (1, 2, "back", "in", "first")
    SENT = (("set", 0, 5), ("look", 4), ("look", 8))

    def hall(self, rule, deeds):
        hall = Hall([self.NEARER, rule], 1)
        do(hall, deeds)
        return hall

    def test_a_home_line_touches(self):
        hall = self.hall((1, 2, "back", "in", "late"), self.SENT)
        self.assertEqual(words(hall)[4:], ["0 home 0", "0 bring 2", "1 bring 2"])
        self.assertEqual(hall.near(1, 0), [[(0, (5, 0, 0, 0), True), (2, NONE, False)]])

    def test_by_first_it_does_not(self):
        hall = self.hall((1, 2, "back", "in", "first"), self.SENT)
        self.assertEqual(words(hall)[4:], ["0 home 0", "0 bring 2", "1 home 0", "1 bring 2"])
        self.assertEqual(held(hall, 1), ["1 2"])
        self.assertEqual(hall.far(), cells(c0=5))

    def test_take_by_takes_a_home_block_that_is_there(self):
        for leave, lines in (("late", ["0+ 2"]), ("first", ["1 2"])):
            hall = self.hall((1, 2, "back", "by", leave), self.SENT)
            self.assertEqual(held(hall, 1), lines)

    def test_through_sends_on_home_and_keeps_the_numbers(self):
        for take in ("in", "by"):
            hall = self.hall((1, 2, "through", take, "late"), self.SENT)
            self.assertEqual(words(hall)[4:], ["0 home 0", "1 home 0", "0 bring 2", "1 bring 2"])
            self.assertEqual(hall.near(1, 0), [[(0, (5, 0, 0, 0), False), (2, NONE, False)]])
            self.assertEqual(hall.far(), cells(c0=5))

    def test_take_by_passes_a_home_block_that_is_not_there(self):
        for write in ("back", "through"):
            hall = self.hall((1, 1, write, "by", "late"), self.SENT[:2])
            hall.settle()
            self.assertEqual(words(hall)[4:], ["0 home 0", "1 home 0"])
            self.assertEqual(held(hall, 1), ["1"])
            self.assertEqual(hall.far(), cells(c0=5))

    def test_take_in_takes_its_place_without_a_bring(self):
        hall = self.hall((1, 1, "back", "in", "late"), self.SENT)
        self.assertEqual(words(hall)[4:], ["0 home 0", "0 bring 2", "1 home 0", "1 bring 2"])
        hall = self.hall((1, 1, "through", "in", "late"), self.SENT[:2])
        hall.settle()
        self.assertEqual(words(hall)[4:], ["0 home 0", "1 home 0"])
        self.assertEqual(hall.near(1, 0), [[(0, (5, 0, 0, 0), False)]])

    def test_a_home_block_puts_a_dirty_one_out_ahead(self):
        self.assertEqual(
            passed((1, 1, "back", "in", "first"), [("home", 0), ("home", 1), ("bring", 1), ("bring", 2)]),
            [("home", 0), ("home", 1), ("bring", 2)],
        )

    def test_a_bring_reaches_and_tells_what_is_here(self):
        hall = Hall([(1, 1, "back", "in", "first"), (1, 2, "back", "in", "late")], 1)
        do(hall, [("set", 0, 5), ("look", 4), ("look", 0), ("look", 4)])
        self.assertEqual(hall.near(1, 0), [[(0, (5, 0, 0, 0), True), (1, NONE, False)]])
        self.assertEqual(hall.far(), cells())
        self.assertEqual(hall.look(0, 0), 5)
        self.assertEqual(held(hall, 1), ["1 0+"])
        self.assertEqual(hall.near(0, 0), [[(0, (5, 0, 0, 0), False)]])

    def test_a_single_cell_is_set_here(self):
        nearer = (1, 1, "through", "by", "first")
        hall = Hall([nearer, (1, 2, "back", "in", "late")], 1)
        do(hall, [("set", 0, 5)])
        self.assertEqual(words(hall), ["0 cell 0", "1 bring 0"])
        self.assertEqual(hall.near(1, 0), [[(0, (5, 0, 0, 0), True)]])
        hall = Hall([nearer, (1, 2, "through", "in", "late")], 1)
        do(hall, [("set", 0, 5)])
        self.assertEqual(words(hall), ["0 cell 0", "1 bring 0", "1 cell 0"])
        hall = Hall([nearer, (1, 2, "back", "by", "late")], 1)
        do(hall, [("set", 0, 5)])
        self.assertEqual(words(hall), ["0 cell 0", "1 cell 0"])
        self.assertEqual((held(hall, 1), hall.far()), ([""], cells(c0=5)))
        do(hall, [("look", 0), ("look", 4), ("set", 1, 6)])
        self.assertEqual(words(hall)[-1], "0 cell 1")
        self.assertEqual(held(hall, 1), ["1 0+"])


if __name__ == "__main__":
    unittest.main()
