"""The calls about one row of stones: read from one list, answered in one list."""

from toadsfrogs.rows import FREE, FROG, MOST_STONES, NO_MOVE, TOAD
from toadsfrogs.rows import Reach, count_leaps, is_row, move_length, row_after, stones_to_move

ROW = 0
MOVE = 1
MOVES = 2
SHOWS = 3
TO = 4
WAYS = 5
COMES = 6
STUCKS = 7
LONGEST = 8
SAFE = 9
SIDES = 10

BEGINNING = (1, 0, 2)

NOT_THERE = -1
CANT_MOVE = -2
IS_FREE = -4
CANT_COME = -6


class Pond:
    """The row held, and the calls about it; each call answers a list of numbers."""

    def __init__(self):
        self.held = BEGINNING

    def row(self, stones):
        if not is_row(stones):
            return [NOT_THERE]
        self.held = tuple(stones)
        return [len(stones_to_move(self.held))]

    def move(self, stone):
        if stone >= len(self.held):
            return [NOT_THERE]
        if self.held[stone] == FREE:
            return [IS_FREE]
        length = move_length(self.held, stone)
        if length == NO_MOVE:
            return [CANT_MOVE]
        self.held = row_after(self.held, stone)
        return [length] + list(self.held)

    def moves(self):
        movable = stones_to_move(self.held)
        return [len(movable)] + movable

    def shows(self):
        return [len(self.held)] + list(self.held)

    def fits(self, stones):
        return len(stones) == len(self.held) and is_row(stones)

    def to(self, stones):
        if not self.fits(stones):
            return [NOT_THERE]
        reach = Reach(self.held)
        target = tuple(stones)
        if not reach.can_come(target):
            return [CANT_COME]
        way = reach.first_way(target)
        return [len(way), count_leaps(self.held, way)] + way

    def ways(self, stones):
        if not self.fits(stones):
            return [NOT_THERE]
        return [Reach(self.held).ways_to(tuple(stones))]

    def comes(self):
        return [Reach(self.held).rows_in_all()]

    def stucks(self):
        # No way goes on for ever, so there is always a first one.
        stuck = Reach(self.held).stuck_rows()
        return [len(stuck)] + list(min(stuck))

    def longest(self):
        way = Reach(self.held).longest_way()
        return [len(way)] + way

    def still_leads(self, stone, target):
        return Reach(row_after(self.held, stone)).can_come(target)

    def safe(self, stones):
        if not self.fits(stones):
            return [NOT_THERE]
        target = tuple(stones)
        leading = [stone for stone in stones_to_move(self.held) if self.still_leads(stone, target)]
        return [len(leading)] + leading


def sides(toads, frogs, gap):
    """How many moves it takes these to change sides; it has nothing to do with a row held."""
    # If one of the three is above 9, so are they together.
    together = toads + frogs + gap
    if together < 1 or together > MOST_STONES:
        return [NOT_THERE]
    on_left = (TOAD,) * toads
    on_right = (FROG,) * frogs
    between = (FREE,) * gap
    reach = Reach(on_left + between + on_right)
    target = on_right + between + on_left
    if not reach.can_come(target):
        return [CANT_COME]
    return [len(reach.first_way(target))]


def call_end(calls, start):
    """The place behind the call that begins at start."""
    call = calls[start]
    if call in (ROW, TO, WAYS, SAFE):
        return start + 2 + calls[start + 1]
    if call == MOVE:
        return start + 2
    if call == SIDES:
        return start + 4
    return start + 1


def split_calls(calls):
    """The calls one by one, each a list of its own: its number and all that stands behind it."""
    parts = []
    start = 0
    while start < len(calls):
        end = call_end(calls, start)
        parts.append(calls[start:end])
        start = end
    return parts


def answer_call(pond, part):
    call = part[0]
    if call == ROW:
        return pond.row(part[2:])
    if call == MOVE:
        return pond.move(part[1])
    if call == MOVES:
        return pond.moves()
    if call == SHOWS:
        return pond.shows()
    if call == TO:
        return pond.to(part[2:])
    if call == WAYS:
        return pond.ways(part[2:])
    if call == COMES:
        return pond.comes()
    if call == STUCKS:
        return pond.stucks()
    if call == LONGEST:
        return pond.longest()
    if call == SAFE:
        return pond.safe(part[2:])
    return sides(part[1], part[2], part[3])


def answers(calls):
    """For each call, in order: how many numbers are answered, then these."""
    pond = Pond()
    told = []
    for part in split_calls(calls):
        answer = answer_call(pond, part)
        told.append(len(answer))
        told.extend(answer)
    return told
