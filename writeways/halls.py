"""Halls of rooms, what they tell of deeds, and what one room passes on."""

from writeways.errors import BadRoom
from writeways.rooms import FarRoom, Room
from writeways.rules import (
    BLOCK_CELLS,
    CELLS,
    check_asks,
    check_deeds,
    check_hand,
    check_hands,
    check_number,
    check_place,
    check_rules,
    is_between,
)


class Hall:
    """Near rooms, one of its own for each hand and shared ones behind, before a far room."""

    def __init__(self, rules, hands):
        check_rules(rules)
        check_hands(hands)
        self.record = []
        self.last = FarRoom()
        self.shared = []
        beyond = self.last
        # Each room needs the next one, so the farthest is made first.
        for level in range(len(rules) - 1, 0, -1):
            beyond = Room(rules[level], beyond, level, 0, self.record)
            self.shared.insert(0, beyond)
        self.own = [Room(rules[0], beyond, 0, hand, self.record) for hand in range(hands)]

    def look(self, hand, place):
        check_hand(hand, len(self.own))
        check_place(place)
        for room in self.others(hand):
            room.clean(place // BLOCK_CELLS)
        return self.own[hand].look_at(place)

    def change(self, hand, place, number):
        check_hand(hand, len(self.own))
        check_place(place)
        check_number(number)
        block = place // BLOCK_CELLS
        for room in self.others(hand):
            room.clean(block)
            room.drop(block)
        self.own[hand].put_cell(place, number)

    def settle(self):
        for room in self.own + self.shared:
            room.settle_lines()

    def far(self):
        return list(self.last.cells)

    def near(self, level, hand):
        if not is_between(level, 0, len(self.shared)):
            raise BadRoom(f"levels are numbered from 0 to {len(self.shared)}")
        check_hand(hand, len(self.own))
        room = self.own[hand] if level == 0 else self.shared[level - 1]
        return room.shown()

    def log(self):
        return list(self.record)

    def moves(self):
        words = [(level, word) for level, hand, word, number in self.record]
        return [
            (words.count((level, "bring")), words.count((level, "home")), words.count((level, "cell")))
            for level in range(len(self.shared) + 1)
        ]

    def others(self, hand):
        return [room for room in self.own if room.hand != hand]


def plain(hands, deeds):
    check_hands(hands)
    check_deeds(deeds, hands)
    cells = [0] * CELLS
    looks = []
    for deed in deeds:
        place = deed[2]
        if deed[0] == "look":
            looks.append(cells[place])
        else:
            cells[place] = deed[3]
    return looks, cells


def told(rules, hands, deeds):
    hall = Hall(rules, hands)
    check_deeds(deeds, hands)
    looks = []
    for deed in deeds:
        if deed[0] == "look":
            looks.append(hall.look(deed[1], deed[2]))
        else:
            hall.change(deed[1], deed[2], deed[3])
    hall.settle()
    return looks, hall.moves(), hall.far()


def passed(rule, asks):
    check_rules([rule])
    check_asks(asks)
    record = []
    room = Room(rule, FarRoom(), 0, 0, record)
    for word, number in asks:
        ask_room(room, word, number)
    return [(word, number) for level, hand, word, number in record]


def ask_room(room, word, number):
    # What a room passes on does not hang on the numbers that cells hold, so any do.
    if word == "look":
        room.look_at(number)
    elif word == "cell":
        room.put_cell(number, 0)
    elif word == "bring":
        room.bring(number)
    else:
        room.put_block(number, [0] * BLOCK_CELLS)
