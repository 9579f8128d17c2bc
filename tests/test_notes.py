"""Point 14: rules and deeds as texts."""

import random
import re
import unittest

from helpers import BAD_DEEDS, BAD_RULES, GOOD, RULES, Refusals, some_deeds
from writeways.errors import BadDeed, BadRule, BadText
from writeways.notes import read, written

SIGNS = [chr(code) for code in range(32, 127) if chr(code) != "\x25"] + ["\n"]
RULE_ROW = re.compile("room ([124]) ([1-4]) (through|back) (in|by) (first|late)")
PLACE = "([0-9]|[1-5][0-9]|6[0-3])"
LOOK_ROW = re.compile(f"look ([012]) {PLACE}")
SET_ROW = re.compile(f"set ([012]) {PLACE} ([0-9]|[1-9][0-9]|[1-9][0-9][0-9])")

TEXT = "room 2 1 back in late\nroom 4 3 through by first\nlook 0 17\nset 1 5 42\nset 2 63 999\nlook 2 0"
RULE = "room 1 1 back in late"
PARTS = (
    [(2, 1, "back", "in", "late"), (4, 3, "through", "by", "first")],
    [("look", 0, 17), ("set", 1, 5, 42), ("set", 2, 63, 999), ("look", 2, 0)],
)


def plainly_read(text):
    """By the forms of rows: (rules, deeds), or the number of the first row that can't be there."""
    rules, deeds = [], []
    for at, row in enumerate(text.split("\n")):
        rule, look, put = RULE_ROW.fullmatch(row), LOOK_ROW.fullmatch(row), SET_ROW.fullmatch(row)
        if rule and not deeds and len(rules) < 3:
            rules.append((int(rule[1]), int(rule[2]), rule[3], rule[4], rule[5]))
        elif look and rules and len(deeds) < 200:
            deeds.append(("look", int(look[1]), int(look[2])))
        elif put and rules and len(deeds) < 200:
            deeds.append(("set", int(put[1]), int(put[2]), int(put[3])))
        else:
            return at
    return rules, deeds


class Texts(Refusals):
    def refuses_row(self, row, text):
        self.assertEqual(self.refuses(BadText, read, text).row, row, text)

    def reads_plainly(self, text):
        expected = plainly_read(text)
        if isinstance(expected, int):
            self.refuses_row(expected, text)
        else:
            self.assertEqual(read(text), expected, text)
            self.assertEqual(written(*expected), text)


class Written(Texts):
    def test_by_hand(self):
        self.assertEqual(written(*PARTS), TEXT)
        self.assertEqual(written([(1, 4, "through", "in", "first")], []), "room 1 4 through in first")
        self.assertEqual(written([GOOD], [("set", 0, 0, 0)]), "room 2 2 back in late\nset 0 0 0")

    def test_what_is_written_is_read_to_the_same(self):
        chance = random.Random(14)
        for rule in RULES:
            rules = [rule, *chance.sample(RULES, chance.randrange(3))]
            deeds = some_deeds(chance, 3, chance.choice((0, 1, 2, 50, 200)), 64)
            text = written(rules, deeds)
            self.assertEqual(read(text), (rules, deeds))
            self.assertEqual(text.count("\n"), len(rules) + len(deeds) - 1)
            self.assertEqual(plainly_read(text), (rules, deeds))

    def test_every_hand_place_and_number(self):
        for hand in (0, 1, 2):
            looks = [("look", hand, place) for place in range(64)]
            sets = [("set", hand, place, 63 - place) for place in range(64)]
            self.assertEqual(read(written([GOOD], looks + sets)), ([GOOD], looks + sets))
        for start in range(0, 1000, 200):
            deeds = [("set", 0, 9, number) for number in range(start, start + 200)]
            text = written([GOOD], deeds)
            self.assertTrue(text.endswith(f"\nset 0 9 {start + 199}"))
            self.assertEqual(read(text), ([GOOD], deeds))

    def test_bad_rules_and_deeds_are_refused(self):
        good = ("set", 2, 63, 999)
        self.refuses_number(BadRule, 0, written, [], [])
        self.refuses_number(BadRule, 3, written, [GOOD] * 4, [])
        self.refuses_number(BadRule, 3, written, [GOOD] * 5, [])
        for bad in BAD_RULES:
            self.refuses_number(BadRule, 0, written, [bad], [])
            self.refuses_number(BadRule, 2, written, [GOOD, GOOD, bad], [])
        for bad in BAD_DEEDS:
            # BAD_DEEDS are of two hands, and texts of three.
            if bad[1:2] != (2,):
                self.refuses_number(BadDeed, 0, written, [GOOD], [bad])
                self.refuses_number(BadDeed, 2, written, [GOOD], [good, good, bad, ()])
        for bad in (("look", 3, 0), ("set", 3, 0, 1)):
            self.refuses_number(BadDeed, 1, written, [GOOD], [good, bad])

    def test_two_hundred_deeds_and_one_more(self):
        deeds = [("look", 2, 63)] * 200
        self.assertEqual(read(written([GOOD] * 3, deeds)), ([GOOD] * 3, deeds))
        self.refuses_number(BadDeed, 200, written, [GOOD], deeds + [("look", 0, 0)])
        self.refuses_number(BadDeed, 200, written, [GOOD], deeds + [()])

    def test_what_is_handed_in_first_is_refused_first(self):
        self.refuses_number(BadRule, 1, written, [GOOD, ()], [()])
        self.refuses_number(BadRule, 0, written, [], [()])


class Read(Texts):
    def test_by_hand(self):
        self.assertEqual(read(TEXT), PARTS)
        self.assertEqual(read("room 1 4 through in first"), ([(1, 4, "through", "in", "first")], []))
        self.assertEqual(read(RULE + "\nset 0 0 0"), ([(1, 1, "back", "in", "late")], [("set", 0, 0, 0)]))

    def test_an_empty_text_has_no_rule(self):
        self.refuses_row(0, "")
        self.refuses_row(0, "\n")
        self.refuses_row(0, " ")
        self.refuses_row(0, "\n" + TEXT)

    def test_line_ends_stand_between_only(self):
        self.refuses_row(1, RULE + "\n")
        self.refuses_row(6, TEXT + "\n")
        self.refuses_row(1, RULE + "\n\nlook 0 0")
        self.refuses_row(2, RULE + "\nlook 0 0\n\nlook 0 0")

    def test_rules_that_cannot_be(self):
        for row in (
            "room 0 1 back in late", "room 3 1 back in late", "room 5 1 back in late", "room 8 1 back in late",
            "room 16 1 back in late", "room 2 0 back in late", "room 2 5 back in late", "room 2 10 back in late",
            "room -1 1 back in late", "room +2 1 back in late", "room 02 1 back in late", "room 2 01 back in late",
            "room 2 1 Back in late", "room 2 1 in back late", "room 2 1 back late in", "room 2 1 back out late",
            "room 2 1 back in last", "room 2 1 back in first late", "room 2 1 back in", "room 2 1 back", "room 2",
            "room", "room ", "Room 2 1 back in late", "rooms 2 1 back in late", "2 1 back in late",
            " room 2 1 back in late", "room 2 1 back in late ", "room  2 1 back in late", "room 2 1  back in late",
            "room 2 1 back in late look 0 1", "room two 1 back in late", "room 2 1.0 back in late",
            "room back in late 2 1", "room 2 1 through2 in late", "room 2 1 1 in late", "room 2 1 back 0 late",
            "room2 1 back in late", "room 2,1 back in late", "room 2 1 back in late.", "room 2 back in late",
        ):
            with self.subTest(row=row):
                self.refuses_row(0, row)
                self.refuses_row(0, row + "\nlook 0 0")
                self.refuses_row(1, RULE + "\n" + row)
                self.refuses_row(2, RULE + "\n" + RULE + "\n" + row + "\nno")

    def test_deeds_that_cannot_be(self):
        for row in (
            "look 3 0", "look 10 0", "look -1 0", "look 0 64", "look 0 70", "look 0 100", "look 0 -1", "look 0 +1",
            "look 00 1", "look 0 00", "look 0 01", "look 0 017", "look 0", "look", "look ", "look 0 ", "look 0 1 ",
            "look 0 1 2", " look 0 1", "look  0 1", "look 0  1", "Look 0 1", "look a 1", "look 0 a", "look 0 1a",
            "look 0 1.0", "look 0 1_0", "look 0,1", "see 0 1", "set 0 1", "set 0 1 ", "set 3 0 1", "set 0 64 1",
            "set 0 0 1000", "set 0 0 -1", "set 0 0 +1", "set 0 0 00", "set 0 0 007", "set 0 0 0999", "set 0 0 1e2",
            "set 0 0 1_0", "set 0 0 1 1", "set  0 0 1", "set 0 0  1", "set 0 0 1 ", "SET 0 0 1", "set 0 01 1",
            "set 00 1 1", "set 0 0 x", "set -0 0 1", "change 0 0 1", "bring 0 1", "0 0 1", "", " ", "#", "~",
            "set 0 0 " + "9" * 4, "set 0 0 " + "9" * 5000, "look 0 " + "0" * 5000, "set 0 0 0x1",
        ):
            with self.subTest(row=row[:40]):
                self.refuses_row(1, RULE + "\n" + row)
                self.refuses_row(2, RULE + "\nlook 0 0\n" + row)
                self.refuses_row(3, RULE + "\nlook 0 0\nset 0 0 0\n" + row + "\nlook 0 0\n" + row)

    def test_a_deed_ahead_of_any_rule(self):
        for deed in ("look 0 0", "set 0 0 0"):
            self.refuses_row(0, deed)
            self.refuses_row(0, deed + "\n" + RULE)

    def test_a_rule_behind_a_deed(self):
        self.refuses_row(2, RULE + "\nlook 0 0\n" + RULE)
        self.refuses_row(2, RULE + "\nset 0 0 0\n" + RULE + "\nlook 0 0")
        self.refuses_row(5, RULE + "\nlook 0 0" * 4 + "\n" + RULE)

    def test_three_rules_and_a_fourth(self):
        three = "\n".join([RULE] * 3)
        self.assertEqual(read(three), ([(1, 1, "back", "in", "late")] * 3, []))
        self.refuses_row(3, three + "\n" + RULE)
        self.refuses_row(3, three + "\n" + RULE + "\n" + RULE)
        self.refuses_row(3, three + "\n" + RULE + "\nlook 0 0")
        self.refuses_row(4, three + "\nlook 0 0\n" + RULE)

    def test_two_hundred_deeds_and_one_more(self):
        for count in (1, 2, 3):
            text = "\n".join([RULE] * count + ["look 0 0", "set 2 63 999"] * 100)
            self.assertEqual(len(read(text)[1]), 200)
            self.refuses_row(count + 200, text + "\nlook 0 0")
            self.refuses_row(count + 200, text + "\nset 0 0 0\nlook 0 0")
            self.refuses_row(count + 200, text + "\n" + RULE)
            self.refuses_row(count + 200, text + "\n")
            self.refuses_row(count + 150, "\n".join(text.split("\n")[:count + 150] + ["look 0 64"] * 60))

    def test_the_first_of_several(self):
        self.refuses_row(1, RULE + "\nlook 0 64\n" + RULE + "\nno")
        self.refuses_row(0, "no\n" + RULE + "\nlook 0 64")
        self.refuses_row(2, RULE + "\nlook 0 0\n" + RULE + "\nlook 0 64")

    def test_one_sign_wrong(self):
        for at in range(len(TEXT)):
            self.reads_plainly(TEXT[:at] + TEXT[at + 1:])
            for sign in SIGNS:
                self.reads_plainly(TEXT[:at] + sign + TEXT[at + 1:])
                self.reads_plainly(TEXT[:at] + sign + TEXT[at:])
        for sign in SIGNS:
            self.reads_plainly(TEXT + sign)

    def test_one_word_wrong(self):
        words = ("room", "look", "set", "back", "through", "in", "by", "first", "late", "0", "1", "2", "3", "4", "5",
                 "8", "16", "63", "64", "999", "1000", "00", "01", "-1", "", "near", "BACK")
        rows = TEXT.split("\n")
        for at, row in enumerate(rows):
            parts = row.split(" ")
            for place in range(len(parts)):
                changed = [[*parts[:place], *parts[place + 1:]]]
                for word in words:
                    changed.append([*parts[:place], word, *parts[place + 1:]])
                    changed.append([*parts[:place], word, *parts[place:]])
                    changed.append([*parts, word])
                for new in changed:
                    self.reads_plainly("\n".join([*rows[:at], " ".join(new), *rows[at + 1:]]))

    def test_one_row_wrong(self):
        rows = TEXT.split("\n")
        for at in range(len(rows) + 1):
            self.reads_plainly("\n".join(rows[:at] + rows[at + 1:]))
            for row in (*rows, "", " ", "look 0", "room 2 1 back in", "set 0 1 1000"):
                self.reads_plainly("\n".join([*rows[:at], row, *rows[at:]]))
                self.reads_plainly("\n".join([*rows[:at], row, *rows[at + 1:]]))

    def test_rows_in_any_turn(self):
        chance = random.Random(141)
        rows = [RULE, RULE, "room 4 4 through by first", "look 0 0", "set 2 63 999", "look 3 0"]
        for at in range(2000):
            self.reads_plainly("\n".join([chance.choice(rows) for row in range(chance.randrange(1, 8))]))


if __name__ == "__main__":
    unittest.main()
