"""The calls about one row of stones: read from one list, answered in one list."""

from toadsfrogs.rows import FREE, NO_MOVE, Reach, count_leaps, is_row, move_length, row_after, stones_to_move

ROW = 0
MOVE = 1
MOVES = 2
SHOWS = 3
TO = 4
WAYS = 5
COMES = 6
STUCKS = 7
LONGEST = 8
SAFE = 9
SIDES = 10

BEGINNING = (1, 0, 2)

NOT_THERE = -1
CANT_MOVE = -2
IS_FREE = -4
CANT_COME = -6


class Pond:
    """The row held, and the calls about it; each call answers a list of numbers."""

    def __init__(self):
        self.held = BEGINNING

    def row(self, stones):
        if not is_row(stones):
            return [NOT_THERE]
        self.held = tuple(stones)
        return [len(stones_to_move(self.held))]

    def move(self, stone):
        if stone >= len(self.held):
            return [NOT_THERE]
        if self.held[stone] == FREE:
            return [IS_FREE]
        length = move_length(self.held, stone)
        if length == NO_MOVE:
            return [CANT_MOVE]
        self.held = row_after(self.held, stone)
        return [length] + list(self.held)

    def moves(self):
        movable = stones_to_move(self.held)
        return [len(movable)] + movable

    def shows(self):
        return [len(self.held)] + list(self.held)

    def fits(self, stones):
        return len(stones) == len(self.held) and is_row(stones)

    def to(self, stones):
        if not self.fits(stones):
            return [NOT_THERE]
        reach = Reach(self.held)
        target = tuple(stones)
        if not reach.can_come(target):
            return [CANT_COME]
        way = reach.first_way(target)
        return [len(way), count_leaps(self.held, way)] + way

    def ways(self, stones):
        if not self.fits(stones):
            return [NOT_THERE]
        return [Reach(self.held).ways_to(tuple(stones))]


def call_end(calls, start):
    """The place behind the call that begins at start."""
    call = calls[start]
    if call in (ROW, TO, WAYS, SAFE):
        return start + 2 + calls[start + 1]
    if call == MOVE:
        return start + 2
    if call == SIDES:
        return start + 4
    return start + 1


def split_calls(calls):
    """The calls one by one, each a list of its own: its number and all that stands behind it."""
    parts = []
    start = 0
    while start < len(calls):
        end = call_end(calls, start)
        parts.append(calls[start:end])
        start = end
    return parts


def answer_call(pond, part):
    call = part[0]
    if call == ROW:
        return pond.row(part[2:])
    if call == MOVE:
        return pond.move(part[1])
    if call == MOVES:
        return pond.moves()
    if call == SHOWS:
        return pond.shows()
    if call == TO:
        return pond.to(part[2:])
    if call == WAYS:
        return pond.ways(part[2:])
    raise NotImplementedError("comes, stucks, longest, safe and sides are not answered yet")


def answers(calls):
    """For each call, in order: how many numbers are answered, then these."""
    pond = Pond()
    told = []
    for part in split_calls(calls):
        answer = answer_call(pond, part)
        told.append(len(answer))
        told.extend(answer)
    return told
