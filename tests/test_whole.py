"""Point 1: nothing handed in is changed or kept, what is told is the caller's, refusals change nothing."""

import copy
import unittest

from writeways.depths import depths, late_brings
from writeways.errors import WayError
from writeways.fewest import fewest, judged
from writeways.halls import Hall, passed, plain, told
from writeways.least import least
from writeways.notes import read, written

BACK = (2, 2, "back", "in", "late")
THROUGH = (1, 3, "through", "by", "first")
DEEDS = [("set", 0, 5, 42), ("look", 1, 5), ("set", 1, 20, 7), ("look", 0, 21), ("set", 0, 5, 43), ("look", 1, 5)]
ASKS = [("look", 3), ("cell", 4), ("bring", 5), ("home", 6)]
BLOCKS = [3, 5, 6, 3, 9, 3, 5]
LEAVINGS = [5, 6, 9]

# Each function with what it may be handed, and with what it refuses.
GOOD_CALLS = (
    (plain, 2, DEEDS),
    (told, [BACK, THROUGH], 2, DEEDS),
    (passed, BACK, ASKS),
    (depths, BLOCKS),
    (late_brings, BLOCKS),
    (fewest, BLOCKS, 2),
    (judged, BLOCKS, 2, LEAVINGS),
    (least, [[THROUGH], [BACK, THROUGH], [THROUGH]], 2, DEEDS),
    (written, [BACK, THROUGH], DEEDS),
    (read, "room 2 2 back in late\nlook 0 5\nset 1 5 42"),
)
BAD_CALLS = (
    (plain, 2, DEEDS + [()]),
    (told, [BACK, ()], 2, DEEDS),
    (told, [BACK, THROUGH], 2, DEEDS + [("look", 2, 0)]),
    (passed, BACK, ASKS + [("look", 64)]),
    (depths, BLOCKS + [16]),
    (late_brings, BLOCKS + [-1]),
    (fewest, BLOCKS + [16], 2),
    (fewest, BLOCKS, 9),
    (judged, BLOCKS, 2, LEAVINGS + [3]),
    (judged, BLOCKS, 2, LEAVINGS[:2]),
    (judged, BLOCKS, 2, [5, 6, 6]),
    (least, [[BACK], [BACK, THROUGH, ()]], 2, DEEDS),
    (least, [[BACK], [BACK, THROUGH]], 2, DEEDS + [()]),
    (written, [BACK, THROUGH], DEEDS + [()]),
    (read, "room 2 2 back in late\nlook 0 5\nset 1 5 1000"),
)


def spoil(told):
    """Change all that can be changed of what was told."""
    if isinstance(told, (list, tuple)):
        for part in told:
            spoil(part)
    if isinstance(told, list):
        told.reverse()
        told.append("spoilt")


def all_told(hall, levels, hands):
    near = [hall.near(level, hand) for level in range(levels) for hand in range(hands)]
    return hall.far(), near, hall.log(), hall.moves()


def busy_hall():
    hall = Hall([BACK, BACK, THROUGH], 2)
    for word, hand, *rest in DEEDS:
        if word == "look":
            hall.look(hand, *rest)
        else:
            hall.change(hand, *rest)
    return hall


class HandedIn(unittest.TestCase):
    def test_nothing_handed_in_is_changed(self):
        for work, *given in GOOD_CALLS + ((Hall, [BACK, THROUGH], 2),):
            with self.subTest(work=work.__name__):
                handed = copy.deepcopy(given)
                work(*handed)
                self.assertEqual(handed, given)

    def test_nor_what_is_refused(self):
        for work, *given in BAD_CALLS + ((Hall, [BACK, ()], 2), (Hall, [BACK] * 4, 2), (Hall, [BACK], 0)):
            with self.subTest(work=work.__name__, given=given):
                handed = copy.deepcopy(given)
                with self.assertRaises(WayError):
                    work(*handed)
                self.assertEqual(handed, given)

    def test_what_is_handed_in_may_be_changed_later(self):
        for work, *given in GOOD_CALLS:
            with self.subTest(work=work.__name__):
                handed = copy.deepcopy(given)
                got = work(*handed)
                before = copy.deepcopy(got)
                spoil(handed)
                self.assertEqual(got, before)
                self.assertEqual(work(*given), before)

    def test_a_list_that_was_changed_is_read_anew(self):
        blocks, deeds = [1, 2, 1], [("look", 0, 0)]
        self.assertEqual((depths(blocks), fewest(blocks, 1)), ([None, None, 1], (3, [1, 2])))
        self.assertEqual((late_brings(blocks)[0], judged(blocks, 2, [])), (3, 2))
        self.assertEqual((least([[BACK]], 1, deeds), written([BACK], deeds)[-8:]), ((0, 4), "look 0 0"))
        blocks[1], deeds[0] = 1, ("set", 0, 0, 1)
        self.assertEqual((depths(blocks), fewest(blocks, 1)), ([None, 0, 0], (1, [])))
        self.assertEqual((late_brings(blocks)[0], judged(blocks, 2, [])), (1, 1))
        self.assertEqual((least([[BACK]], 1, deeds), written([BACK], deeds)[-9:]), ((0, 8), "set 0 0 1"))

    def test_rules_are_not_kept(self):
        rules = [BACK, BACK, THROUGH]
        hall = Hall(rules, 2)
        rules.clear()
        rules.append(())
        hall.change(0, 5, 42)
        self.assertEqual(hall.look(1, 5), 42)
        self.assertEqual(hall.moves(), [(2, 1, 0), (1, 0, 0), (1, 0, 0)])

    def test_what_is_told_is_not_the_list_handed_in(self):
        deeds = []
        self.assertIsNot(plain(1, deeds)[0], deeds)
        self.assertIsNot(told([BACK], 1, deeds)[0], deeds)
        self.assertIsNot(passed(BACK, deeds), deeds)
        self.assertIsNot(depths(deeds), deeds)
        self.assertIsNot(fewest(deeds, 1)[1], deeds)


class Told(unittest.TestCase):
    def test_lists_may_be_changed_by_whoever_got_them(self):
        hall = busy_hall()
        before = copy.deepcopy(all_told(hall, 3, 2))
        hall.far()[0] = 5
        hall.far().clear()
        hall.log().clear()
        hall.log().append(1)
        hall.moves()[0] = 1
        hall.moves().clear()
        for level in (0, 1, 2):
            for hand in (0, 1):
                for row in hall.near(level, hand):
                    row.clear()
                    row.append(1)
                hall.near(level, hand).clear()
        self.assertEqual(all_told(hall, 3, 2), before)
        self.assertEqual(hall.look(0, 5), 43)

    def test_lists_that_were_told_stay_as_they_were(self):
        hall = busy_hall()
        got = all_told(hall, 3, 2)
        before = copy.deepcopy(got)
        hall.change(1, 60, 9)
        hall.change(0, 5, 44)
        hall.settle()
        self.assertEqual(got, before)
        self.assertNotEqual(all_told(hall, 3, 2), before)

    def test_what_functions_tell_may_be_changed_too(self):
        for work, *given in GOOD_CALLS:
            with self.subTest(work=work.__name__):
                got = work(*given)
                before = copy.deepcopy(got)
                spoil(got)
                self.assertEqual(work(*given), before)

    def test_kinds_of_the_rules_held_against_each_other(self):
        self.assertEqual([type(part) for part in depths([1, 1, 2])], [type(None), int, type(None)])
        self.assertEqual([type(depths([])), type(depths([1]))], [list, list])
        self.assertEqual([type(late_brings([])), *map(type, late_brings([]))], [list] + [int] * 16)
        for got in (fewest([], 1), fewest(BLOCKS, 2)):
            self.assertEqual([type(got), *map(type, got)], [tuple, int, list])
        self.assertEqual({type(part) for part in fewest(BLOCKS, 2)[1]}, {int})
        self.assertEqual([type(judged([], 1, [])), type(judged(BLOCKS, 2, LEAVINGS))], [int, int])
        for got in (least([[BACK]], 1, []), least([[BACK], [THROUGH]], 2, DEEDS)):
            self.assertEqual([type(got), *map(type, got)], [tuple, int, int])

    def test_kinds_of_texts(self):
        text = written([BACK, THROUGH], DEEDS)
        self.assertIs(type(text), str)
        got = read(text)
        self.assertEqual([type(got), *map(type, got)], [tuple, list, list])
        for part in got[0]:
            self.assertEqual([type(part), *map(type, part)], [tuple, int, int, str, str, str])
        for part in got[1]:
            self.assertEqual([type(part), *map(type, part)], [tuple, str] + [int] * (len(part) - 1))

    def test_kinds(self):
        hall = busy_hall()
        self.assertIs(type(hall.look(0, 5)), int)
        self.assertIsNone(hall.change(0, 5, 1))
        for got in (hall.far(), hall.log(), hall.moves(), hall.near(0, 0), hall.near(0, 0)[0], passed(BACK, [])):
            self.assertIs(type(got), list)
        for got in (hall.log()[0], hall.moves()[0], hall.near(0, 0)[1][0], hall.near(0, 0)[1][0][1]):
            self.assertIs(type(got), tuple)
        self.assertIs(hall.near(0, 0)[1][-1][2], True)
        self.assertIsNone(hall.settle())
        self.assertIs(hall.near(0, 0)[1][-1][2], False)
        looks, cells = plain(2, DEEDS)
        self.assertEqual((type(plain(2, DEEDS)), type(looks), type(cells)), (tuple, list, list))
        looks, moves, far = told([BACK], 2, DEEDS)
        self.assertEqual((type(told([BACK], 2, DEEDS)), type(looks), type(moves), type(far)), (tuple, list, list, list))
        self.assertIs(type(moves[0]), tuple)
        self.assertIs(type(passed(BACK, [("look", 0)])[0]), tuple)

    def test_asked_again_the_same_is_told(self):
        hall = busy_hall()
        self.assertEqual(all_told(hall, 3, 2), all_told(hall, 3, 2))
        first = [work(*given) for work, *given in GOOD_CALLS]
        self.assertEqual([work(*given) for work, *given in GOOD_CALLS], first)

    def test_refused_between_the_same_is_told(self):
        first = [work(*given) for work, *given in GOOD_CALLS]
        for work, *given in BAD_CALLS * 2:
            with self.assertRaises(WayError):
                work(*given)
        self.assertEqual([work(*given) for work, *given in GOOD_CALLS], first)

    def test_halls_do_not_share(self):
        one, other = Hall([BACK], 1), Hall([BACK], 1)
        one.change(0, 0, 5)
        one.settle()
        self.assertEqual(all_told(other, 1, 1), ([0] * 64, [[[], []]], [], [(0, 0, 0)]))
        self.assertEqual(other.look(0, 0), 0)


class Refused(unittest.TestCase):
    def test_what_is_refused_changes_nothing(self):
        hall = busy_hall()
        hall.change(0, 5, 44)
        before = copy.deepcopy(all_told(hall, 3, 2))
        tries = (
            (hall.look, 2, 5), (hall.look, -1, 5), (hall.look, 1, 64), (hall.look, 1, -59),
            (hall.change, 2, 5, 1), (hall.change, 1, 64, 1), (hall.change, 1, -59, 1),
            (hall.change, 1, 5, 1000), (hall.change, 1, 5, -1),
            (hall.near, 3, 0), (hall.near, -1, 0), (hall.near, 0, 2), (hall.near, 2, -1),
        )
        for work, *given in tries:
            with self.subTest(work=work.__name__, given=given):
                with self.assertRaises(WayError):
                    work(*given)
                self.assertEqual(all_told(hall, 3, 2), before)


if __name__ == "__main__":
    unittest.main()
