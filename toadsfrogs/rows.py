"""Rows of stones: which moves can be made, what they lead to, and which rows can come."""

FREE = 0
TOAD = 1
FROG = 2

MOST_STONES = 9

# What lies past both ends of a row: neither free nor a toad nor a frog, so nobody goes there.
WATER = 3

STEP = 1
LEAP = 2
NO_MOVE = 0


def is_row(stones):
    """Whether these numbers are a row: 1 to 9 stones, each free, with a toad or with a frog."""
    if len(stones) < 1 or len(stones) > MOST_STONES:
        return False
    return max(stones) <= FROG


def found_at(row, place):
    # Python counts a place below 0 from the end, where a frog must not look.
    if place < 0 or place >= len(row):
        return WATER
    return row[place]


def direction(kind):
    return 1 if kind == TOAD else -1


def other_kind(kind):
    return FROG if kind == TOAD else TOAD


def move_length(row, stone):
    """How the one on this stone can move: STEP, LEAP or NO_MOVE."""
    kind = row[stone]
    if kind == FREE:
        return NO_MOVE
    ahead = direction(kind)
    neighbour = found_at(row, stone + ahead)
    if neighbour == FREE:
        return STEP
    if neighbour == other_kind(kind) and found_at(row, stone + 2 * ahead) == FREE:
        return LEAP
    return NO_MOVE


def stones_to_move(row):
    """The stones from which a move can be made, rising."""
    return [stone for stone in range(len(row)) if move_length(row, stone) != NO_MOVE]


def row_after(row, stone):
    """The row that the move from this stone leads to; there must be one."""
    kind = row[stone]
    stones = list(row)
    stones[stone] = FREE
    stones[stone + direction(kind) * move_length(row, stone)] = kind
    return tuple(stones)


def count_leaps(row, way):
    """How many moves of this way, made from this row, are leaps."""
    leaps = 0
    for stone in way:
        if move_length(row, stone) == LEAP:
            leaps += 1
        row = row_after(row, stone)
    return leaps


class Reach:
    """The rows that can come from one row.

    counts tells of each of them how many ways lead there, lasts (of all but the first)
    the row before it and the stone moved there, on the first way. farthest is the row that
    the first of the longest ways leads to.
    """

    def __init__(self, start):
        self.counts = {start: 1}
        self.lasts = {}
        layer = [start]
        while layer:
            self.farthest = layer[0]
            layer = self.one_move_on(layer)

    def one_move_on(self, layer):
        # All ways to a row are equally long. So a layer's rows have all their ways counted
        # before the next layer begins; and as a layer stands in the order of its rows' first
        # ways, and moves are tried rising, a row is first met on its own first way.
        onward = []
        for row in layer:
            for stone in stones_to_move(row):
                after = row_after(row, stone)
                if after not in self.counts:
                    self.counts[after] = 0
                    self.lasts[after] = (row, stone)
                    onward.append(after)
                self.counts[after] += self.counts[row]
        return onward

    def rows_in_all(self):
        """How many rows can come, the one at the start too."""
        return len(self.counts)

    def stuck_rows(self):
        return [row for row in self.counts if not stones_to_move(row)]

    def longest_way(self):
        """The first of the longest ways."""
        return self.first_way(self.farthest)

    def can_come(self, row):
        return row in self.counts

    def ways_to(self, row):
        """How many ways lead to this row; none if it can't come."""
        return self.counts.get(row, 0)

    def first_way(self, row):
        """The first way to this row, which must be one that can come."""
        backward = []
        while row in self.lasts:
            last = self.lasts[row]
            backward.append(last[1])
            row = last[0]
        return list(reversed(backward))
