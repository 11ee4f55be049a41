"""What the tests share: calls in words, and a slow second reckoning of the rules."""

from toadsfrogs.stones import answers

NUMBERS = {
    "row": 0, "move": 1, "moves": 2, "shows": 3, "to": 4, "ways": 5,
    "comes": 6, "stucks": 7, "longest": 8, "safe": 9, "sides": 10,
}
WITH_ROW = ("row", "to", "ways", "safe")


def written(*calls):
    """The calls, each a tuple of its name and its numbers, as the one list of the interface."""
    numbers = []
    for name, *given in calls:
        numbers.append(NUMBERS[name])
        if name in WITH_ROW:
            numbers.append(len(given))
        numbers.extend(given)
    return numbers


def taken_apart(told):
    """The answers one by one."""
    parts = []
    at = 0
    while at < len(told):
        end = at + 1 + told[at]
        if told[at] < 1 or end > len(told):
            raise AssertionError(f"a count that does not fit at {at} of {told}")
        parts.append(told[at + 1:end])
        at = end
    return parts


def ask(*calls):
    return taken_apart(answers(written(*calls)))


def ask_last(*calls):
    return ask(*calls)[-1]


def all_rows(length):
    rows = [()]
    for _ in range(length):
        rows = [row + (kind,) for row in rows for kind in (0, 1, 2)]
    return rows


PATTERNS = (("10", "01", 0, 1), ("120", "021", 0, 2), ("02", "20", 1, 1), ("012", "210", 2, 2))


def slow_moves(row):
    """{stone: (1 or 2, the row then)}, by looking for the four patterns in the row as a text."""
    text = "".join(str(kind) for kind in row)
    found = {}
    for before, after, mover, length in PATTERNS:
        for at in range(len(text) - len(before) + 1):
            if text[at:at + len(before)] == before:
                then = text[:at] + after + text[at + len(before):]
                found[at + mover] = (length, tuple(int(kind) for kind in then))
    return dict(sorted(found.items()))


def slow_ways(row):
    """{row that can come: [(the way, its leaps), ...]}, by making every way there is."""
    ways = {}
    waiting = [(row, (), 0)]
    while waiting:
        now, way, leaps = waiting.pop()
        ways.setdefault(now, []).append((way, leaps))
        for stone, (length, then) in slow_moves(now).items():
            waiting.append((then, way + (stone,), leaps + (length == 2)))
    return ways


def slow_comes(row):
    """The rows that can come, in order, for rows with too many ways to make them all."""
    met = {row}
    waiting = [row]
    while waiting:
        for _, then in slow_moves(waiting.pop()).values():
            if then not in met:
                met.add(then)
                waiting.append(then)
    return sorted(met)


def slow_longest(row, known):
    """The first of the longest ways, put together from the end; known keeps what is found."""
    if row not in known:
        known[row] = ()
        for stone, (_, then) in slow_moves(row).items():
            way = (stone,) + slow_longest(then, known)
            if len(way) > len(known[row]):
                known[row] = way
    return known[row]
