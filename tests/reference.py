"""Slow but plain answers, told straight from the document, to hold the program's against."""

from itertools import permutations, product

# Rooms small enough to list all of their tables.
SMALL_ROOMS = [
    (1, 1, 1), (1, 1, 4), (1, 4, 1), (4, 1, 1), (2, 2, 1), (2, 2, 2), (1, 3, 3),
    (3, 1, 3), (2, 3, 2), (3, 2, 2), (3, 3, 1), (2, 2, 3), (3, 3, 2), (6, 1, 2),
]
WIDEST = (6, 20, 20)
NO_NUMBERS = [True, False, None, "1", "", [1], []]
NO_ROOMS = [
    (), (2,), (2, 2), (2, 2, 2, 2),
    (0, 2, 2), (2, 0, 2), (2, 2, 0), (-1, 2, 2), (2, -1, 2), (2, 2, -1),
    (7, 2, 2), (2, 21, 2), (2, 2, 21), (20, 6, 20), (10 ** 5000, 2, 2),
] + [
    (2,) * at + (wrong,) + (2,) * (2 - at) for at in range(3) for wrong in NO_NUMBERS
]


def told_as_table(room, table):
    """Tell by [3] whether the table, a list of lists of whole numbers, is one of the room."""
    rows, columns, height = room
    if len(table) != rows or any(len(row) != columns for row in table):
        return False
    for i, j in product(range(rows), range(columns)):
        if not 0 <= table[i][j] <= height:
            return False
        if j and table[i][j] > table[i][j - 1]:
            return False
        if i and table[i][j] > table[i - 1][j]:
            return False
    return True


def all_tables(room):
    """List the tables of a small room in the order of [6]."""
    rows, columns, height = room
    found = []
    # product tells the lesser number first, the first place slowest: the order of [6].
    for numbers in product(range(height + 1), repeat=rows * columns):
        table = [list(numbers[columns * i:columns * (i + 1)]) for i in range(rows)]
        if told_as_table(room, table):
            found.append(table)
    return found


def with_more(table, place, more):
    """Copy the table with so many boxes more on the place."""
    copy = [list(row) for row in table]
    copy[place[0]][place[1]] += more
    return copy


def fitting_places(room, table, more):
    """List by [4] the places where so many boxes more leave a table of the room."""
    ground = product(range(room[0]), range(room[1]))
    return [place for place in ground if told_as_table(room, with_more(table, place, more))]


def filled(room, number):
    """Return the table of the room with the same number everywhere."""
    return [[number] * room[1] for _ in range(room[0])]


def wide_tables():
    """List some tables of the greatest room."""
    rows, columns, height = WIDEST
    stairs = [[max(0, height - i - j) for j in range(columns)] for i in range(rows)]
    terraces = [[max(0, height - 3 * i - j // 4 * 5) for j in range(columns)] for i in range(rows)]
    walls = [[height] * columns] + [[height] + [0] * (columns - 1) for _ in range(rows - 1)]
    return [filled(WIDEST, 0), filled(WIDEST, 7), filled(WIDEST, height), stairs, terraces, walls]


def all_cases():
    """List rooms and tables: all tables of the small rooms, some of the greatest."""
    found = [(room, table) for room in SMALL_ROOMS for table in all_tables(room)]
    return found + [(WIDEST, table) for table in wide_tables()]


def all_texts(rights, downs):
    """List all texts of so many steps to the right and so many down."""
    if rights < 0 or downs < 0:
        return []
    texts = map("".join, product("rd", repeat=rights + downs))
    return [text for text in texts if text.count("r") == rights]


def told_spots(room, number, lane):
    """List the spots by [8]: each of them told by the steps ahead of it."""
    start = room[0] - 1 - number
    heads = [lane[:at] for at in range(len(lane) + 1)]
    return [(start + head.count("r"), start + room[2] - head.count("d")) for head in heads]


def told_end(room, number):
    """Return the spot by [10] where a lane of a table ends."""
    start = room[0] - 1 - number
    return start + room[1], start


def told_meetings(room, lanes):
    """List by [12] the lanes that meet: the lane, the other one and the spot.

    They stand lane by lane, spot by spot along the lane, and in the order of the others.
    """
    ways = [told_spots(room, k, lane) for k, lane in enumerate(lanes)]
    found = []
    for k, way in enumerate(ways):
        for spot in way:
            found += [(k, m, spot) for m, other in enumerate(ways) if m != k and spot in other]
    return found


def told_turned(room, ends, lanes):
    """Turn a family by [12], or return None where no two lanes meet."""
    meetings = told_meetings(room, lanes)
    if not meetings:
        return None
    k, m, spot = meetings[0]
    ends, lanes = list(ends), list(lanes)
    ends[k], ends[m] = ends[m], ends[k]
    one, other = [told_spots(room, at, lanes[at]).index(spot) for at in (k, m)]
    lanes[k], lanes[m] = lanes[k][:one] + lanes[m][other:], lanes[m][:other] + lanes[k][one:]
    return ends, lanes


def told_sign(ends):
    """Return the sign of [11]: each exchange of two neighbours in a sort changes it."""
    ends = list(ends)
    told = 1
    while ends != sorted(ends):
        for at in range(len(ends) - 1):
            if ends[at] > ends[at + 1]:
                ends[at], ends[at + 1] = ends[at + 1], ends[at]
                told = -told
    return told


def all_families(room):
    """List the families of [10] of a small room, as ends and lanes."""
    found = []
    for ends in permutations(range(room[0])):
        texts = [all_texts(room[1] + k - m, room[2] - k + m) for k, m in enumerate(ends)]
        found += [(list(ends), list(lanes)) for lanes in product(*texts)]
    return found


def told_floor(room, table):
    """List by [15] the tiles of a table, in no certain order."""
    rows, columns, height = room
    tiles = []
    for i, j in product(range(rows), range(columns)):
        tiles.append(("top", i - table[i][j], j - table[i][j]))
    for j, h in product(range(columns), range(height)):
        greater = sum(table[i][j] > h for i in range(rows))
        tiles.append(("front", greater - h, j - h))
    for i, h in product(range(rows), range(height)):
        greater = sum(table[i][j] > h for j in range(columns))
        tiles.append(("side", i - h, greater - h))
    return tiles


def told_covered(tile):
    """Return the two triangles of [16]."""
    kind, u, v = tile
    return {
        "top": (("low", u, v), ("up", u, v)),
        "front": (("low", u - 1, v - 1), ("up", u - 1, v)),
        "side": (("low", u, v - 1), ("up", u - 1, v - 1)),
    }[kind]


def told_ground(room):
    """Return the set of the triangles of [17]."""
    return {triangle for tile in told_floor(room, filled(room, 0)) for triangle in told_covered(tile)}


def all_coverings(triangles):
    """List all sets of tiles that cover just these triangles, each one once."""
    if not triangles:
        return [[]]
    # Each covering has one tile over the first triangle: a low one and an up one near it.
    first = min(triangles)
    kind, u, v = first
    near = [("top", u, v), ("front", u + 1, v + 1), ("side", u, v + 1)]
    found = []
    for tile in near:
        both = set(told_covered(tile))
        if first in both and both <= triangles:
            found += [[tile] + rest for rest in all_coverings(triangles - both)]
    return found
