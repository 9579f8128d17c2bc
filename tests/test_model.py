"""Points 4 to 7 against a second telling of the document, behind each deed of long rows."""

import random
import unittest

from helpers import RULES
from writeways.halls import Hall


class Model:
    """Lines are kept by block with the stamp by which they leave: no rows, no turns to keep."""

    def __init__(self, rules, hands):
        self.rules, self.hands = rules, hands
        self.cells = [0] * 64
        self.lines = {(0, hand): {} for hand in range(hands)}
        self.lines.update({(level, 0): {} for level in range(1, len(rules))})
        self.log = []
        self.stamp = 0

    def new_stamp(self):
        self.stamp += 1
        return self.stamp

    def say(self, room, word, number):
        self.log.append((*room, word, number))
        return (room[0] + 1, 0)

    def is_far(self, room):
        return room[0] == len(self.rules)

    def make_room(self, room, block):
        sets, ways = self.rules[room[0]][:2]
        lines = self.lines[room]
        mates = [other for other in lines if other % sets == block % sets]
        if len(mates) == ways:
            leaver = min(mates, key=lambda other: lines[other]["stamp"])
            self.flush(room, leaver)
            del lines[leaver]

    def flush(self, room, block):
        line = self.lines[room].get(block)
        if line and line["dirty"]:
            line["dirty"] = False
            self.home(self.say(room, "home", block), block, line["numbers"])

    def reach(self, room, block):
        lines = self.lines[room]
        if block not in lines:
            self.make_room(room, block)
            numbers = self.bring(self.say(room, "bring", block), block)
            lines[block] = {"numbers": list(numbers), "dirty": False, "stamp": self.new_stamp()}
        elif self.rules[room[0]][4] == "late":
            lines[block]["stamp"] = self.new_stamp()
        return lines[block]

    def bring(self, room, block):
        if self.is_far(room):
            return self.cells[4 * block:4 * block + 4]
        return self.reach(room, block)["numbers"]

    def cell(self, room, place, number):
        if self.is_far(room):
            self.cells[place] = number
            return
        write, take = self.rules[room[0]][2:4]
        away = place // 4 not in self.lines[room]
        if not (away and take == "by"):
            line = self.reach(room, place // 4)
            line["numbers"][place % 4] = number
            if write == "back":
                line["dirty"] = True
                return
        self.cell(self.say(room, "cell", place), place, number)

    def home(self, room, block, numbers):
        if self.is_far(room):
            self.cells[4 * block:4 * block + 4] = numbers
            return
        write, take, leave = self.rules[room[0]][2:]
        lines = self.lines[room]
        away = block not in lines
        if not (away and take == "by"):
            if away:
                self.make_room(room, block)
                lines[block] = {"stamp": self.new_stamp()}
            elif leave == "late":
                lines[block]["stamp"] = self.new_stamp()
            lines[block].update(numbers=list(numbers), dirty=write == "back")
            if write == "back":
                return
        self.home(self.say(room, "home", block), block, numbers)

    def ahead(self, hand, block, drop):
        for other in range(self.hands):
            if other != hand:
                self.flush((0, other), block)
                if drop:
                    self.lines[0, other].pop(block, None)

    def look(self, hand, place):
        self.ahead(hand, place // 4, False)
        return self.reach((0, hand), place // 4)["numbers"][place % 4]

    def change(self, hand, place, number):
        self.ahead(hand, place // 4, True)
        self.cell((0, hand), place, number)

    def settle(self):
        for room in sorted(self.lines):
            sets = self.rules[room[0]][0]
            lines = self.lines[room]
            for block in sorted(lines, key=lambda block: (block % sets, lines[block]["stamp"])):
                self.flush(room, block)

    def near(self, level, hand):
        lines = self.lines[level, hand if level == 0 else 0]
        rows = [[] for at in range(self.rules[level][0])]
        for block in sorted(lines, key=lambda block: lines[block]["stamp"]):
            line = lines[block]
            rows[block % len(rows)].append((block, tuple(line["numbers"]), line["dirty"]))
        return rows

    def moves(self):
        return [
            tuple(len([1 for row in self.log if row[0] == level and row[2] == word])
                  for word in ("bring", "home", "cell"))
            for level in range(len(self.rules))
        ]


class AgainstTheModel(unittest.TestCase):
    def check(self, chance, rules, hands, count, places):
        hall, model = Hall(rules, hands), Model(rules, hands)
        plain = [0] * 64
        for at in range(count):
            hand, place, number = chance.randrange(hands), chance.randrange(places), chance.randrange(1000)
            kind = chance.randrange(40)
            if kind == 0:
                hall.settle()
                model.settle()
                self.assertEqual(hall.far(), plain, (rules, hands, at))
            elif kind < 20:
                told = hall.look(hand, place)
                self.assertEqual((told, told), (model.look(hand, place), plain[place]), (rules, hands, at))
            else:
                hall.change(hand, place, number)
                model.change(hand, place, number)
                plain[place] = number
            self.same(hall, model, (rules, hands, at))

    def same(self, hall, model, where):
        self.assertEqual(hall.log(), model.log, where)
        self.assertEqual(hall.far(), model.cells, where)
        self.assertEqual(hall.moves(), model.moves(), where)
        for level in range(len(model.rules)):
            for hand in range(model.hands):
                self.assertEqual(hall.near(level, hand), model.near(level, hand), where)

    def test_each_rule_alone_by_one_to_three_hands(self):
        chance = random.Random(4)
        for rule in RULES:
            for hands in (1, 2, 3):
                self.check(chance, [rule], hands, 60, 40)

    def test_each_rule_shared(self):
        chance = random.Random(6)
        for rule in RULES:
            for hands in (1, 2, 3):
                self.check(chance, [chance.choice(RULES), rule], hands, 50, 48)

    def test_each_rule_last_of_three(self):
        chance = random.Random(7)
        for rule in RULES:
            for hands in (1, 2, 3):
                self.check(chance, [chance.choice(RULES), chance.choice(RULES), rule], hands, 50, 64)


if __name__ == "__main__":
    unittest.main()
