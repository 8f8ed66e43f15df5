"""What the tests share: drawings made from inner sides, and what the document says of them.

Nothing here is taken from the package: every count is made anew from the document's words.
"""

import re

SMALL_SIZES = ((1, 1), (1, 2), (2, 1), (1, 6), (6, 1), (2, 2), (3, 2), (2, 3), (4, 2), (2, 4), (3, 3))
ALL_SIZES = tuple((wide, high) for wide in range(1, 11) for high in range(1, 11))


def drawn(*lines):
    """The bytes of a drawing that is written out line by line."""
    return [ord(sign) for line in lines for sign in line + "\n"]


def side_count(wide, high):
    return (wide - 1) * high + wide * (high - 1)


def sides(wide, high):
    """The two squares at each inner side, in the order in which inner sides are numbered."""
    upright = [(y * wide + x, y * wide + x + 1) for y in range(high) for x in range(wide - 1)]
    level = [(y * wide + x, y * wide + x + wide) for y in range(high - 1) for x in range(wide)]
    return upright + level


def draw(wide, high, hedges):
    """The drawing of a garden with hedges at the inner sides with these numbers."""
    canvas = [[" "] * (2 * wide + 1) for line in range(2 * high + 1)]
    for y in range(high + 1):
        for x in range(wide + 1):
            canvas[2 * y][2 * x] = "+"
    for x in range(wide):
        canvas[0][2 * x + 1] = canvas[2 * high][2 * x + 1] = "-"
    for y in range(high):
        canvas[2 * y + 1][0] = canvas[2 * y + 1][2 * wide] = "|"
    for number, (one, other) in enumerate(sides(wide, high)):
        if number in hedges:
            upright = number < (wide - 1) * high
            line = one // wide + other // wide + 1
            column = one % wide + other % wide + 1
            canvas[line][column] = "|" if upright else "-"
    return drawn(*["".join(line) for line in canvas])


def with_passages(wide, high, joined):
    """A garden with a passage between the squares of these pairs, and hedges elsewhere."""
    return draw(wide, high, [number for number, pair in enumerate(sides(wide, high)) if pair not in joined])


def all_gardens(wide, high):
    """Every choice of hedges for a garden of this size."""
    count = side_count(wide, high)
    for choice in range(2 ** count):
        yield frozenset(k for k in range(count) if choice >> k & 1)


def scattered(wide, high, seed, share):
    """Hedges at about share of 8 inner sides, the same ones for the same seed."""
    state = seed * 7919 + wide * 104729 + high * 1299709 + 1
    hedges = []
    for number in range(side_count(wide, high)):
        state = (state * 1103515245 + 12345) % 2 ** 31
        if (state >> 16) % 8 < share:
            hedges.append(number)
    return frozenset(hedges)


def snake_hedges():
    """10 by 10 squares on one single way through all of them, row by row to and fro."""
    numbers = range(90, 180)
    return frozenset(n for n in numbers if (n - 90) % 10 != (9 if (n - 90) // 10 % 2 == 0 else 0))


def shuffled_sides(wide, high, seed):
    """The numbers of all inner sides, in an order that is the same for the same seed."""
    state = seed * 7919 + wide * 104729 + high * 1299709 + 1
    keyed = []
    for number in range(side_count(wide, high)):
        state = (state * 1103515245 + 12345) % 2 ** 31
        keyed.append((state >> 8, number))
    return [number for key, number in sorted(keyed)]


def grown(wide, high, seed):
    """The hedges of a perfect garden: a side is a passage if it joins what wasn't joined before."""
    pairs = sides(wide, high)
    part = list(range(wide * high))
    hedges = []
    for number in shuffled_sides(wide, high, seed):
        one, other = (part[square] for square in pairs[number])
        if one == other:
            hedges.append(number)
        part = [one if label == other else label for label in part]
    return frozenset(hedges)


def squares_beside(wide, high, hedges):
    """The squares that a passage joins each square to, rising."""
    beside = {square: [] for square in range(wide * high)}
    for number, (one, other) in enumerate(sides(wide, high)):
        if number not in hedges:
            beside[one].append(other)
            beside[other].append(one)
    return {square: sorted(others) for square, others in beside.items()}


def has_just_one_way(wide, high, hedges):
    """Whether just one way that comes to no square twice leads between any two squares."""
    beside = squares_beside(wide, high, hedges)
    for first in range(wide * high):
        ends = set()
        waiting = [(first,)]
        while waiting:
            way = waiting.pop()
            if way[-1] in ends:
                return False
            ends.add(way[-1])
            waiting += [way + (square,) for square in beside[way[-1]] if square not in way]
        if len(ends) < wide * high:
            return False
    return True


def fewest_steps(wide, high, hedges):
    """For each square, by the squares that ways from it end at: after how few steps one ends there."""
    beside = squares_beside(wide, high, hedges)
    table = []
    for first in range(wide * high):
        fewest = {}
        ends = {first}
        for steps in range(wide * high):
            for square in ends:
                fewest.setdefault(square, steps)
            ends = {other for square in ends for other in beside[square]}
            if ends <= set(fewest):
                break
        table.append(fewest)
    return table


def sides_passed(wide, way):
    """The side of the square, 0 to 3, by which each step of a way leaves it."""
    numbers = {(0, -1): 0, (1, 0): 1, (0, 1): 2, (-1, 0): 3}
    return [numbers[other % wide - one % wide, other // wide - one // wide] for one, other in zip(way, way[1:])]


def shortest_ways(wide, high, hedges, table, s, u):
    """All ways from s to u with the fewest steps, which the table of fewest_steps tells."""
    beside = squares_beside(wide, high, hedges)
    ways = [[s]]
    for left in range(table[u][s] - 1, -1, -1):
        ways = [way + [square] for way in ways for square in beside[way[-1]] if table[u][square] == left]
    return ways


def dead_ends(wide, high, hedges):
    """The squares that stand at just one inner side without a hedge."""
    at_passages = [square for number, pair in enumerate(sides(wide, high)) if number not in hedges for square in pair]
    return [square for square in range(wide * high) if at_passages.count(square) == 1]


def rooms_of_squares(wide, high, hedges):
    """The room of each square: what ways join, numbered as their least squares come."""
    beside = squares_beside(wide, high, hedges)
    found = {}
    rooms = 0
    for first in range(wide * high):
        if first in found:
            continue
        found[first] = rooms
        waiting = [first]
        while waiting:
            for square in beside[waiting.pop()]:
                if square not in found:
                    found[square] = rooms
                    waiting.append(square)
        rooms += 1
    return [found[square] for square in range(wide * high)]


def islands_of_drawing(garden):
    """How many patches the signs that aren't blank make, without the one with the border in it."""
    lines = bytes(garden).decode("ascii").splitlines()
    left = {(x, y) for y, line in enumerate(lines) for x, sign in enumerate(line) if sign != " "}
    patches = 0
    while left:
        waiting = [left.pop()]
        patches += 1
        while waiting:
            x, y = waiting.pop()
            for place in ((x + 1, y), (x - 1, y), (x, y + 1), (x, y - 1)):
                if place in left:
                    left.remove(place)
                    waiting.append(place)
    return patches - 1


def counts(wide, high, hedges):
    """Rooms, rings, islands."""
    rooms = max(rooms_of_squares(wide, high, hedges)) + 1
    passages = side_count(wide, high) - len(hedges)
    return [rooms, passages + rooms - wide * high, islands_of_drawing(draw(wide, high, hedges))]


def is_whole(garden):
    """Whether the bytes are a drawing, by a pattern for each width."""
    text = bytes(garden).decode("latin-1")
    for wide in range(1, 11):
        border = r"\+(-\+){%d}\n" % wide
        squares = r"\| ([ |] ){%d}\|\n" % (wide - 1)
        level = r"\+([ -]\+){%d}\n" % wide
        if re.fullmatch(border + "(" + squares + level + "){0,9}" + squares + border, text):
            return True
    return False
