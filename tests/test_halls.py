"""Points 6 and 7: several hands, settle, and what a hall tells behind each deed."""

import unittest

from writeways.halls import Hall

NONE = (0, 0, 0, 0)
LATE = (1, 2, "back", "in", "late")


def cells(**given):
    far = [0] * 64
    for name, number in given.items():
        far[int(name[1:])] = number
    return far


def blocks(hall, level, hand):
    return [[line[0] for line in row] for row in hall.near(level, hand)]


class SeveralHands(unittest.TestCase):
    def test_each_hand_has_a_room_of_its_own(self):
        hall = Hall([LATE], 3)
        hall.look(2, 0)
        hall.look(0, 4)
        self.assertEqual([blocks(hall, 0, hand) for hand in (0, 1, 2)], [[[1]], [[]], [[0]]])
        self.assertEqual(hall.log(), [(0, 2, "bring", 0), (0, 0, "bring", 1)])
        self.assertEqual(hall.moves(), [(2, 0, 0)])

    def test_a_look_sends_anothers_dirty_line_home_and_leaves_it(self):
        hall = Hall([LATE], 2)
        hall.change(0, 0, 5)
        self.assertEqual(hall.look(1, 0), 5)
        self.assertEqual(hall.log(), [(0, 0, "bring", 0), (0, 0, "home", 0), (0, 1, "bring", 0)])
        for hand in (0, 1):
            self.assertEqual(hall.near(0, hand), [[(0, (5, 0, 0, 0), False)]])
        self.assertEqual(hall.far(), cells(c0=5))

    def test_a_look_at_another_cell_of_the_block_does_so_too(self):
        hall = Hall([LATE], 2)
        hall.change(0, 0, 5)
        self.assertEqual(hall.look(1, 3), 0)
        self.assertEqual(hall.moves(), [(2, 1, 0)])
        self.assertEqual(hall.look(1, 4), 0)
        self.assertEqual(hall.moves(), [(3, 1, 0)])

    def test_a_look_leaves_anothers_turn_as_it_is(self):
        hall = Hall([LATE], 2)
        hall.change(0, 0, 5)
        hall.look(0, 4)
        hall.look(1, 0)
        hall.look(1, 0)
        self.assertEqual(blocks(hall, 0, 0), [[0, 1]])

    def test_a_change_drops_anothers_line(self):
        hall = Hall([LATE], 2)
        hall.look(0, 0)
        hall.look(0, 4)
        hall.look(1, 0)
        hall.change(1, 2, 7)
        self.assertEqual(hall.near(0, 0), [[(1, NONE, False)]])
        self.assertEqual(hall.near(0, 1), [[(0, (0, 0, 7, 0), True)]])
        self.assertEqual(hall.moves(), [(3, 0, 0)])

    def test_a_change_sends_anothers_dirty_line_home_then_drops_it(self):
        hall = Hall([LATE], 2)
        hall.change(0, 0, 5)
        hall.change(1, 2, 7)
        self.assertEqual(hall.log(), [(0, 0, "bring", 0), (0, 0, "home", 0), (0, 1, "bring", 0)])
        self.assertEqual(hall.near(0, 0), [[]])
        self.assertEqual(hall.near(0, 1), [[(0, (5, 0, 7, 0), True)]])
        self.assertEqual(hall.far(), cells(c0=5))
        self.assertEqual(hall.look(0, 2), 7)

    def test_a_change_that_passes_by_drops_too(self):
        for write in ("back", "through"):
            hall = Hall([(1, 2, write, "by", "late")], 3)
            hall.look(0, 0)
            hall.look(2, 0)
            hall.change(0, 0, 5)
            self.assertEqual(blocks(hall, 0, 2), [[]])
            hall.change(1, 1, 7)
            self.assertEqual([blocks(hall, 0, hand) for hand in (0, 1, 2)], [[[]], [[]], [[]]])
            self.assertEqual(hall.far(), cells(c0=5, c1=7))
            self.assertEqual([hall.look(hand, 0) for hand in (0, 1, 2)], [5, 5, 5])

    def test_all_other_hands_are_dropped_and_the_own_is_kept(self):
        for hand in (0, 1, 2):
            hall = Hall([LATE], 3)
            for other in (0, 1, 2):
                hall.look(other, 0)
            hall.change(hand, 0, 9)
            held = [blocks(hall, 0, other) for other in (0, 1, 2)]
            self.assertEqual(held, [[[0]] if other == hand else [[]] for other in (0, 1, 2)])
            self.assertEqual(hall.moves(), [(3, 0, 0)])

    def test_the_own_dirty_line_stays(self):
        hall = Hall([LATE], 2)
        hall.change(1, 0, 5)
        hall.look(1, 0)
        hall.change(1, 0, 6)
        self.assertEqual(hall.log(), [(0, 1, "bring", 0)])
        self.assertEqual(hall.near(0, 1), [[(0, (6, 0, 0, 0), True)]])

    def test_lines_go_home_to_the_shared_room(self):
        hall = Hall([LATE, (2, 1, "back", "by", "first")], 2)
        hall.change(1, 4, 5)
        self.assertEqual(hall.look(0, 4), 5)
        self.assertEqual(
            hall.log(),
            [(0, 1, "bring", 1), (1, 0, "bring", 1), (0, 1, "home", 1), (0, 0, "bring", 1)],
        )
        for hand in (0, 1):
            self.assertEqual(hall.near(1, hand), [[], [(1, (5, 0, 0, 0), True)]])
        self.assertEqual(hall.far(), cells())


class Settling(unittest.TestCase):
    def test_by_hands_set_by_set_who_leaves_first_ahead(self):
        hall = Hall([(2, 2, "back", "in", "late")], 2)
        for hand, place in ((1, 4), (1, 8), (1, 0), (0, 12), (0, 20)):
            hall.change(hand, place, place + 1)
        hall.look(0, 12)
        hall.look(0, 24)
        before = [hall.near(0, hand) for hand in (0, 1)]
        gone = len(hall.log())
        hall.settle()
        self.assertEqual(
            hall.log()[gone:],
            [(0, 0, "home", 5), (0, 0, "home", 3), (0, 1, "home", 2), (0, 1, "home", 0), (0, 1, "home", 1)],
        )
        self.assertEqual(hall.far(), cells(c4=5, c8=9, c0=1, c12=13, c20=21))
        # All stay where they are, but none is dirty.
        clean = [[[(block, numbers, False) for block, numbers, dirty in row] for row in rows] for rows in before]
        self.assertEqual([hall.near(0, hand) for hand in (0, 1)], clean)

    def test_then_the_shared_rooms_the_nearer_first(self):
        hall = Hall([LATE, (1, 4, "back", "in", "late"), (1, 4, "back", "in", "late")], 2)
        hall.change(1, 4, 6)
        hall.change(0, 0, 5)
        gone = len(hall.log())
        hall.settle()
        self.assertEqual(
            hall.log()[gone:],
            [(0, 0, "home", 0), (0, 1, "home", 1), (1, 0, "home", 0), (1, 0, "home", 1), (2, 0, "home", 0),
             (2, 0, "home", 1)],
        )
        self.assertEqual(hall.far(), cells(c0=5, c4=6))

    def test_lines_that_come_home_put_others_out(self):
        hall = Hall([LATE, (1, 1, "back", "in", "late")], 2)
        hall.change(0, 0, 5)
        hall.change(1, 4, 6)
        gone = len(hall.log())
        hall.settle()
        self.assertEqual(
            hall.log()[gone:], [(0, 0, "home", 0), (0, 1, "home", 1), (1, 0, "home", 0), (1, 0, "home", 1)],
        )
        self.assertEqual(hall.near(1, 0), [[(1, (6, 0, 0, 0), False)]])

    def test_settled_again_nothing_goes(self):
        for rules in ([LATE], [LATE, LATE], [LATE, (1, 1, "back", "by", "first"), LATE]):
            hall = Hall(rules, 3)
            for hand, place in ((0, 0), (1, 20), (2, 40), (2, 44)):
                hall.change(hand, place, 7)
            hall.settle()
            log, far = hall.log(), hall.far()
            self.assertEqual(far, cells(c0=7, c20=7, c40=7, c44=7))
            hall.settle()
            self.assertEqual((hall.log(), hall.far()), (log, far))

    def test_nothing_goes_of_a_new_hall(self):
        hall = Hall([LATE, LATE], 2)
        hall.settle()
        self.assertEqual((hall.log(), hall.moves(), hall.far()), ([], [(0, 0, 0)] * 2, cells()))

    def test_a_hall_goes_on_behind_settle(self):
        hall = Hall([LATE], 1)
        hall.change(0, 0, 5)
        hall.settle()
        hall.change(0, 0, 6)
        self.assertEqual(hall.near(0, 0), [[(0, (6, 0, 0, 0), True)]])
        self.assertEqual(hall.far(), cells(c0=5))
        hall.settle()
        self.assertEqual((hall.far(), hall.moves()), (cells(c0=6), [(1, 2, 0)]))


class Telling(unittest.TestCase):
    def test_a_new_hall(self):
        hall = Hall([(4, 1, "back", "in", "late"), LATE, (2, 1, "through", "by", "first")], 2)
        for hand in (0, 1):
            self.assertEqual([hall.near(level, hand) for level in (0, 1, 2)], [[[]] * 4, [[]], [[]] * 2])
        self.assertEqual((hall.far(), hall.log(), hall.moves()), (cells(), [], [(0, 0, 0)] * 3))

    def test_a_bring_goes_down_room_by_room(self):
        hall = Hall([LATE, LATE, LATE], 2)
        hall.look(1, 63)
        self.assertEqual(hall.log(), [(0, 1, "bring", 15), (1, 0, "bring", 15), (2, 0, "bring", 15)])
        hall.look(0, 62)
        self.assertEqual(hall.log()[3:], [(0, 0, "bring", 15)])
        self.assertEqual(hall.moves(), [(2, 0, 0), (1, 0, 0), (1, 0, 0)])

    def test_a_cell_goes_down_room_by_room(self):
        through = (1, 2, "through", "in", "late")
        hall = Hall([through, through, through], 2)
        hall.change(1, 63, 999)
        self.assertEqual(
            hall.log(),
            [(0, 1, "bring", 15), (1, 0, "bring", 15), (2, 0, "bring", 15),
             (0, 1, "cell", 63), (1, 0, "cell", 63), (2, 0, "cell", 63)],
        )
        for level in (0, 1, 2):
            self.assertEqual(hall.near(level, 1), [[(15, (0, 0, 0, 999), False)]])
        self.assertEqual((hall.far(), hall.moves()), (cells(c63=999), [(1, 0, 1)] * 3))

    def test_three_rooms_and_three_hands_deed_by_deed(self):
        hall = Hall([(1, 1, "back", "in", "first"), (2, 1, "through", "by", "late"), (1, 1, "back", "by", "late")], 3)
        steps = (
            (lambda: hall.change(2, 0, 1), [(0, 2, "bring", 0), (1, 0, "bring", 0), (2, 0, "bring", 0)]),
            (lambda: hall.look(0, 4), [(0, 0, "bring", 1), (1, 0, "bring", 1), (2, 0, "bring", 1)]),
            # Block 0 is at levels 0 and 1 only: level 1 takes its numbers and sends it on, level 2 passes it by.
            (lambda: hall.look(1, 0), [(0, 2, "home", 0), (1, 0, "home", 0), (2, 0, "home", 0), (0, 1, "bring", 0)]),
            (lambda: hall.change(1, 1, 2), []),
            (lambda: hall.look(1, 8), [
                (0, 1, "home", 0), (1, 0, "home", 0), (2, 0, "home", 0),
                (0, 1, "bring", 2), (1, 0, "bring", 2), (2, 0, "bring", 2),
            ]),
            (lambda: hall.change(0, 5, 3), []),
            # Level 1 holds block 1 still, level 2 does not.
            (lambda: hall.change(2, 6, 4), [
                (0, 0, "home", 1), (1, 0, "home", 1), (2, 0, "home", 1), (0, 2, "bring", 1),
            ]),
        )
        log = []
        for at, (step, more) in enumerate(steps):
            with self.subTest(at=at):
                step()
                log += more
                self.assertEqual(hall.log(), log)
                counted = [
                    tuple(sum(row[0] == level and row[2] == word for row in log) for word in ("bring", "home", "cell"))
                    for level in (0, 1, 2)
                ]
                self.assertEqual(hall.moves(), counted)
        self.assertEqual(hall.far(), cells(c0=1, c1=2, c5=3))
        self.assertEqual([hall.near(0, hand) for hand in (0, 1, 2)], [
            [[]], [[(2, NONE, False)]], [[(1, (0, 3, 4, 0), True)]],
        ])
        for hand in (0, 1, 2):
            self.assertEqual(hall.near(1, hand), [[(2, NONE, False)], [(1, (0, 3, 0, 0), False)]])
            self.assertEqual(hall.near(2, hand), [[(2, NONE, False)]])


if __name__ == "__main__":
    unittest.main()
