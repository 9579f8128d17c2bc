"""One room by its rule, and the far room behind the last one."""

from writeways.rules import BLOCK_CELLS, CELLS


class FarRoom:
    """All cells; what comes here has arrived."""

    def __init__(self):
        self.cells = [0] * CELLS

    def bring(self, block):
        start = block * BLOCK_CELLS
        return tuple(self.cells[start:start + BLOCK_CELLS])

    def put_cell(self, place, number):
        self.cells[place] = number

    def put_block(self, block, numbers):
        start = block * BLOCK_CELLS
        self.cells[start:start + BLOCK_CELLS] = list(numbers)


class Line:
    """What a room holds of one block."""

    def __init__(self, block, numbers):
        self.block = block
        self.numbers = list(numbers)
        self.dirty = False


class Room:
    """A near room; what it passes on stands in `record`, which all rooms of a hall share."""

    def __init__(self, rule, beyond, level, hand, record):
        sets, ways, write, take, leave = rule
        # In each row who leaves first stands first.
        self.rows = [[] for at in range(sets)]
        self.ways = ways
        self.writes_back = write == "back"
        self.takes_in = take == "in"
        self.leaves_late = leave == "late"
        self.beyond = beyond
        self.level = level
        self.hand = hand
        self.record = record

    def look_at(self, place):
        line = self.reach(place // BLOCK_CELLS)
        return line.numbers[place % BLOCK_CELLS]

    def bring(self, block):
        return tuple(self.reach(block).numbers)

    def put_cell(self, place, number):
        block = place // BLOCK_CELLS
        if self.passes_by(block):
            self.pass_cell(place, number)
            return
        line = self.reach(block)
        line.numbers[place % BLOCK_CELLS] = number
        if self.writes_back:
            line.dirty = True
        else:
            self.pass_cell(place, number)

    def put_block(self, block, numbers):
        if self.passes_by(block):
            self.pass_home(block, numbers)
            return
        line = self.find_line(block)
        if line is None:
            self.make_place(block)
            line = self.add_line(block, numbers)
        else:
            self.touch(line)
            line.numbers = list(numbers)
        if self.writes_back:
            line.dirty = True
        else:
            self.pass_home(block, numbers)

    def clean(self, block):
        """Send the block's line home if it is here and dirty."""
        line = self.find_line(block)
        if line is not None:
            self.send_home(line)

    def drop(self, block):
        line = self.find_line(block)
        if line is not None:
            self.row_of(block).remove(line)

    def settle_lines(self):
        lines = [line for row in self.rows for line in row]
        for line in lines:
            self.send_home(line)

    def shown(self):
        return [[(line.block, tuple(line.numbers), line.dirty) for line in row] for row in self.rows]

    def row_of(self, block):
        return self.rows[block % len(self.rows)]

    def find_line(self, block):
        for line in self.row_of(block):
            if line.block == block:
                return line
        return None

    def passes_by(self, block):
        return not self.takes_in and self.find_line(block) is None

    def reach(self, block):
        line = self.find_line(block)
        if line is not None:
            self.touch(line)
            return line
        self.make_place(block)
        self.pass_on("bring", block)
        return self.add_line(block, self.beyond.bring(block))

    def touch(self, line):
        if self.leaves_late:
            row = self.row_of(line.block)
            row.remove(line)
            row.append(line)

    def make_place(self, block):
        row = self.row_of(block)
        if len(row) == self.ways:
            self.send_home(row[0])
            del row[0]

    def add_line(self, block, numbers):
        line = Line(block, numbers)
        self.row_of(block).append(line)
        return line

    def send_home(self, line):
        if line.dirty:
            self.pass_home(line.block, line.numbers)
            line.dirty = False

    # A room says what it passes on before the next room acts on it,
    # so that the record tells of both in the order in which they act.
    def pass_on(self, word, number):
        self.record.append((self.level, self.hand, word, number))

    def pass_cell(self, place, number):
        self.pass_on("cell", place)
        self.beyond.put_cell(place, number)

    def pass_home(self, block, numbers):
        self.pass_on("home", block)
        self.beyond.put_block(block, numbers)
