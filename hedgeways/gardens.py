"""Gardens of hedges, told from their drawings: rooms, rings and islands, ways and dead ends."""

LINE_END = 10
BLANK = 32
CORNER = 43
LEVEL_HEDGE = 45
UPRIGHT_HEDGE = 124

MOST_SQUARES = 10
MOST_BYTES = 1024

# One step through each side of a square, as (x, y): upper, right, lower, left.
SIDES = ((0, -1), (1, 0), (0, 1), (-1, 0))

TOLD = 0
TOO_LONG = -2
NO_SUCH_SQUARE = -4
NO_WAY = -5
AT_FAULT = -6

UNREACHED = -1


def rooms(garden):
    """0, how many rooms, rings and islands; or a refusal."""
    refused = refusal(garden)
    if refused != TOLD:
        return [refused]
    wide = width_of(garden)
    high = height_of(garden, wide)
    passages = passages_of(garden, wide, high)
    room_count = count_parts(least_joined(wide * high, passages))
    rings = count_rings(wide * high, passages, room_count)
    return [TOLD, room_count, rings, count_islands(garden, wide, high)]


def room(s, garden):
    """0, the room of square s; or a refusal."""
    refused = refusal(garden)
    if refused != TOLD:
        return [refused]
    wide = width_of(garden)
    high = height_of(garden, wide)
    if s >= wide * high:
        return [NO_SUCH_SQUARE]
    least = least_joined(wide * high, passages_of(garden, wide, high))
    # Rooms are numbered by their least squares: those that begin ahead of this one's come first.
    return [TOLD, count_parts_below(least, least[s])]


def perfect(garden):
    """0, 1 if the garden is perfect, else 0; or a refusal."""
    refused = refusal(garden)
    if refused != TOLD:
        return [refused]
    wide = width_of(garden)
    high = height_of(garden, wide)
    passages = passages_of(garden, wide, high)
    room_count = count_parts(least_joined(wide * high, passages))
    rings = count_rings(wide * high, passages, room_count)
    return [TOLD, 1 if room_count == 1 and rings == 0 else 0]


def far(s, u, garden):
    """0, how far it is from square s to square u; or a refusal."""
    refused = refusal(garden)
    if refused != TOLD:
        return [refused]
    beside = squares_beside(garden)
    if max(s, u) >= len(beside):
        return [NO_SUCH_SQUARE]
    steps = steps_from(s, beside)
    if steps[u] == UNREACHED:
        return [NO_WAY]
    return [TOLD, steps[u]]


def way(s, u, garden):
    """0, the squares of the first shortest way from square s to square u; or a refusal."""
    refused = refusal(garden)
    if refused != TOLD:
        return [refused]
    beside = squares_beside(garden)
    if max(s, u) >= len(beside):
        return [NO_SUCH_SQUARE]
    # Counted from where the way ends, so that each step can be seen to lead nearer.
    steps = steps_from(u, beside)
    if steps[s] == UNREACHED:
        return [NO_WAY]
    return [TOLD] + first_way_down(s, steps, beside)


def ends(garden):
    """0, the dead ends, rising; or a refusal."""
    refused = refusal(garden)
    if refused != TOLD:
        return [refused]
    beside = squares_beside(garden)
    return [TOLD] + [square for square in range(len(beside)) if len(beside[square]) == 1]


def longest(garden):
    """0, how far the two squares lie from one another that are farthest apart, and these two; or a refusal."""
    refused = refusal(garden)
    if refused != TOLD:
        return [refused]
    return [TOLD] + farthest_pair(squares_beside(garden))


def refusal(garden):
    """The refusal that the drawing brings on every call, or 0 if there's none."""
    if len(garden) > MOST_BYTES:
        return TOO_LONG
    if not is_drawing(garden):
        return AT_FAULT
    return TOLD


def is_drawing(garden):
    """Whether the bytes are the whole drawing of a garden."""
    wide = width_of(garden)
    if wide == 0:
        return False
    high = height_of(garden, wide)
    if high == 0:
        return False
    return all_signs_fit(garden, wide, high)


def width_of(garden):
    """How many squares wide the garden is, by where its first line ends; 0 if no garden's line ends so."""
    for wide in range(1, MOST_SQUARES + 1):
        end = 2 * wide + 1
        if len(garden) > end and garden[end] == LINE_END:
            return wide
    return 0


def height_of(garden, wide):
    """How many squares high the garden is, by how many bytes there are; 0 if no garden has so many."""
    for high in range(1, MOST_SQUARES + 1):
        if len(garden) == (2 * high + 1) * (2 * wide + 2):
            return high
    return 0


def sign_at(garden, wide, column, line):
    """The byte in a column of a line of the drawing."""
    return garden[line * (2 * wide + 2) + column]


def all_signs_fit(garden, wide, high):
    """Whether each byte is one that may stand at its place."""
    for line in range(2 * high + 1):
        for column in range(2 * wide + 2):
            if sign_at(garden, wide, column, line) not in fitting_signs(wide, high, column, line):
                return False
    return True


def fitting_signs(wide, high, column, line):
    """The signs that may stand in a column of a line, the line's end among the columns."""
    if column == 2 * wide + 1:
        return (LINE_END,)
    if line % 2 == 0 and column % 2 == 0:
        return (CORNER,)
    if line % 2 == 1 and column % 2 == 1:
        return (BLANK,)
    if line % 2 == 0:
        return side_signs(LEVEL_HEDGE, line, 2 * high)
    return side_signs(UPRIGHT_HEDGE, column, 2 * wide)


def side_signs(hedge, place, last):
    """The signs that may stand at a side of a square: on the border nothing but a hedge."""
    if place == 0 or place == last:
        return (hedge,)
    return (hedge, BLANK)


def is_upright_passage(garden, wide, x, y):
    """Whether there's a passage between squares (x, y) and (x + 1, y)."""
    return sign_at(garden, wide, 2 * x + 2, 2 * y + 1) == BLANK


def is_level_passage(garden, wide, x, y):
    """Whether there's a passage between squares (x, y) and (x, y + 1)."""
    return sign_at(garden, wide, 2 * x + 1, 2 * y + 2) == BLANK


def passages_of(garden, wide, high):
    """The pairs of squares with a passage between them, in the order of the inner sides."""
    pairs = []
    for y in range(high):
        for x in range(wide - 1):
            if is_upright_passage(garden, wide, x, y):
                pairs.append((y * wide + x, y * wide + x + 1))
    for y in range(high - 1):
        for x in range(wide):
            if is_level_passage(garden, wide, x, y):
                pairs.append((y * wide + x, (y + 1) * wide + x))
    return pairs


def count_rings(squares, passages, room_count):
    """How many passages are more than it takes to hang the rooms together."""
    return len(passages) + room_count - squares


def hedges_of(garden, wide, high):
    """The pairs of corners with a hedge between them, in the order of the inner sides."""
    pairs = []
    for y in range(high):
        for x in range(wide - 1):
            if not is_upright_passage(garden, wide, x, y):
                pairs.append((corner_at(wide, high, x + 1, y), corner_at(wide, high, x + 1, y + 1)))
    for y in range(high - 1):
        for x in range(wide):
            if not is_level_passage(garden, wide, x, y):
                pairs.append((corner_at(wide, high, x, y + 1), corner_at(wide, high, x + 1, y + 1)))
    return pairs


def corner_at(wide, high, x, y):
    """The number of the corner to the upper left of square (x, y): 0 for all on the border together."""
    if x == 0 or x == wide or y == 0 or y == high:
        return 0
    return 1 + (y - 1) * (wide - 1) + x - 1


def count_islands(garden, wide, high):
    """How many parts the corners fall into by hedges, without the border's one."""
    corners = 1 + (wide - 1) * (high - 1)
    return count_parts(least_joined(corners, hedges_of(garden, wide, high))) - 1


def least_joined(count, pairs):
    """For each number below count the least one that the pairs, one behind another, join it to."""
    least = list(range(count))
    for pair in pairs:
        kept = min(least[pair[0]], least[pair[1]])
        dropped = max(least[pair[0]], least[pair[1]])
        least = [kept if part == dropped else part for part in least]
    return least


def count_parts(least):
    """How many parts there are."""
    return count_parts_below(least, len(least))


def count_parts_below(least, end):
    """How many parts have their least number below end."""
    found = 0
    for number in range(end):
        if least[number] == number:
            found = found + 1
    return found


def squares_beside(garden):
    """For each square those that a passage joins it to, in the order of its sides."""
    wide = width_of(garden)
    high = height_of(garden, wide)
    return [through_sides(garden, wide, square) for square in range(wide * high)]


def through_sides(garden, wide, square):
    """The squares that a passage joins this one to, in the order of its sides."""
    x = square % wide
    y = square // wide
    found = []
    for side in SIDES:
        # The border is drawn as a hedge, so no step leads out of the garden.
        if sign_at(garden, wide, 2 * x + 1 + side[0], 2 * y + 1 + side[1]) == BLANK:
            found.append((y + side[1]) * wide + x + side[0])
    return found


def steps_from(start, beside):
    """For each square the fewest steps from start to it, or that it isn't reached."""
    steps = [UNREACHED for square in beside]
    steps[start] = 0
    outermost = [start]
    while len(outermost) > 0:
        further = []
        for square in outermost:
            for other in beside[square]:
                if steps[other] == UNREACHED:
                    steps[other] = steps[square] + 1
                    further.append(other)
        outermost = further
    return steps


def first_way_down(start, steps, beside):
    """The squares from start to where no step is left, by the earliest side that leads nearer."""
    squares = [start]
    while steps[squares[-1]] > 0:
        squares.append(first_nearer(squares[-1], steps, beside))
    return squares


def first_nearer(square, steps, beside):
    """The first square beside this one, by the sides, that has fewer steps left."""
    nearer = [other for other in beside[square] if steps[other] < steps[square]]
    return nearer[0]


def farthest_pair(beside):
    """How far the first of the pairs that are farthest apart is, and its squares, the lesser first."""
    found = [0, 0, 0]
    for lesser in range(len(beside)):
        steps = steps_from(lesser, beside)
        for other in range(lesser, len(beside)):
            # The pairs come in their order, so one that is only as far comes too late.
            if steps[other] > found[0]:
                found = [steps[other], lesser, other]
    return found
