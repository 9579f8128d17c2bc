"""Point 1: nothing handed in is changed or kept, what is told is the caller's, refusals change nothing."""

import copy
import unittest

from writeways.errors import WayError
from writeways.halls import Hall, passed, plain, told

BACK = (2, 2, "back", "in", "late")
THROUGH = (1, 3, "through", "by", "first")
DEEDS = [("set", 0, 5, 42), ("look", 1, 5), ("set", 1, 20, 7), ("look", 0, 21), ("set", 0, 5, 43), ("look", 1, 5)]


def all_told(hall, levels, hands):
    near = [hall.near(level, hand) for level in range(levels) for hand in range(hands)]
    return hall.far(), near, hall.log(), hall.moves()


def busy_hall():
    hall = Hall([BACK, BACK, THROUGH], 2)
    for word, hand, *rest in DEEDS:
        if word == "look":
            hall.look(hand, *rest)
        else:
            hall.change(hand, *rest)
    return hall


class HandedIn(unittest.TestCase):
    def test_nothing_handed_in_is_changed(self):
        rules, deeds = [BACK, THROUGH], list(DEEDS)
        asks = [("look", 3), ("cell", 4), ("bring", 5), ("home", 6)]
        given = copy.deepcopy((rules, deeds, asks))
        Hall(rules, 2)
        plain(2, deeds)
        told(rules, 2, deeds)
        passed(BACK, asks)
        self.assertEqual((rules, deeds, asks), given)

    def test_rules_are_not_kept(self):
        rules = [BACK, BACK, THROUGH]
        hall = Hall(rules, 2)
        rules.clear()
        rules.append(())
        hall.change(0, 5, 42)
        self.assertEqual(hall.look(1, 5), 42)
        self.assertEqual(hall.moves(), [(2, 1, 0), (1, 0, 0), (1, 0, 0)])

    def test_what_is_told_is_not_the_list_handed_in(self):
        deeds = []
        self.assertIsNot(plain(1, deeds)[0], deeds)
        self.assertIsNot(told([BACK], 1, deeds)[0], deeds)
        self.assertIsNot(passed(BACK, deeds), deeds)


class Told(unittest.TestCase):
    def test_lists_may_be_changed_by_whoever_got_them(self):
        hall = busy_hall()
        before = copy.deepcopy(all_told(hall, 3, 2))
        hall.far()[0] = 5
        hall.far().clear()
        hall.log().clear()
        hall.log().append(1)
        hall.moves()[0] = 1
        hall.moves().clear()
        for level in (0, 1, 2):
            for hand in (0, 1):
                for row in hall.near(level, hand):
                    row.clear()
                    row.append(1)
                hall.near(level, hand).clear()
        self.assertEqual(all_told(hall, 3, 2), before)
        self.assertEqual(hall.look(0, 5), 43)

    def test_lists_that_were_told_stay_as_they_were(self):
        hall = busy_hall()
        got = all_told(hall, 3, 2)
        before = copy.deepcopy(got)
        hall.change(1, 60, 9)
        hall.change(0, 5, 44)
        hall.settle()
        self.assertEqual(got, before)
        self.assertNotEqual(all_told(hall, 3, 2), before)

    def test_kinds(self):
        hall = busy_hall()
        self.assertIs(type(hall.look(0, 5)), int)
        self.assertIsNone(hall.change(0, 5, 1))
        for got in (hall.far(), hall.log(), hall.moves(), hall.near(0, 0), hall.near(0, 0)[0], passed(BACK, [])):
            self.assertIs(type(got), list)
        for got in (hall.log()[0], hall.moves()[0], hall.near(0, 0)[1][0], hall.near(0, 0)[1][0][1]):
            self.assertIs(type(got), tuple)
        self.assertIs(hall.near(0, 0)[1][-1][2], True)
        self.assertIsNone(hall.settle())
        self.assertIs(hall.near(0, 0)[1][-1][2], False)
        looks, cells = plain(2, DEEDS)
        self.assertEqual((type(plain(2, DEEDS)), type(looks), type(cells)), (tuple, list, list))
        looks, moves, far = told([BACK], 2, DEEDS)
        self.assertEqual((type(told([BACK], 2, DEEDS)), type(looks), type(moves), type(far)), (tuple, list, list, list))
        self.assertIs(type(moves[0]), tuple)
        self.assertIs(type(passed(BACK, [("look", 0)])[0]), tuple)

    def test_methods_stand_in_the_class_itself(self):
        for name in ("look", "change", "settle", "far", "near", "log", "moves"):
            self.assertIn(name, vars(Hall))

    def test_asked_again_the_same_is_told(self):
        hall = busy_hall()
        self.assertEqual(all_told(hall, 3, 2), all_told(hall, 3, 2))
        self.assertEqual(plain(2, DEEDS), plain(2, DEEDS))
        self.assertEqual(told([BACK, THROUGH], 2, DEEDS), told([BACK, THROUGH], 2, DEEDS))
        asks = [("cell", 4), ("home", 6), ("bring", 9)]
        self.assertEqual(passed(BACK, asks), passed(BACK, asks))

    def test_halls_do_not_share(self):
        one, other = Hall([BACK], 1), Hall([BACK], 1)
        one.change(0, 0, 5)
        one.settle()
        self.assertEqual(all_told(other, 1, 1), ([0] * 64, [[[], []]], [], [(0, 0, 0)]))
        self.assertEqual(other.look(0, 0), 0)


class Refused(unittest.TestCase):
    def test_what_is_refused_changes_nothing(self):
        hall = busy_hall()
        hall.change(0, 5, 44)
        before = copy.deepcopy(all_told(hall, 3, 2))
        tries = (
            (hall.look, 2, 5), (hall.look, -1, 5), (hall.look, 1, 64), (hall.look, 1, -59),
            (hall.change, 2, 5, 1), (hall.change, 1, 64, 1), (hall.change, 1, -59, 1),
            (hall.change, 1, 5, 1000), (hall.change, 1, 5, -1),
            (hall.near, 3, 0), (hall.near, -1, 0), (hall.near, 0, 2), (hall.near, 2, -1),
        )
        for work, *given in tries:
            with self.subTest(work=work.__name__, given=given):
                with self.assertRaises(WayError):
                    work(*given)
                self.assertEqual(all_told(hall, 3, 2), before)


if __name__ == "__main__":
    unittest.main()
