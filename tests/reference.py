"""Slow but plain answers, told straight from the document, to hold the program's against."""

from itertools import product

# Rooms small enough to list all of their tables.
SMALL_ROOMS = [
    (1, 1, 1), (1, 1, 4), (1, 4, 1), (4, 1, 1), (2, 2, 1), (2, 2, 2), (1, 3, 3),
    (3, 1, 3), (2, 3, 2), (3, 2, 2), (3, 3, 1), (2, 2, 3), (3, 3, 2), (6, 1, 2),
]
WIDEST = (6, 20, 20)
NO_NUMBERS = [True, False, None, "1", "", [1], []]
NO_ROOMS = [
    (), (2,), (2, 2), (2, 2, 2, 2),
    (0, 2, 2), (2, 0, 2), (2, 2, 0), (-1, 2, 2), (2, -1, 2), (2, 2, -1),
    (7, 2, 2), (2, 21, 2), (2, 2, 21), (20, 6, 20), (10 ** 5000, 2, 2),
] + [
    (2,) * at + (wrong,) + (2,) * (2 - at) for at in range(3) for wrong in NO_NUMBERS
]


def told_as_table(room, table):
    """Tell by [3] whether the table, a list of lists of whole numbers, is one of the room."""
    rows, columns, height = room
    if len(table) != rows or any(len(row) != columns for row in table):
        return False
    for i, j in product(range(rows), range(columns)):
        if not 0 <= table[i][j] <= height:
            return False
        if j and table[i][j] > table[i][j - 1]:
            return False
        if i and table[i][j] > table[i - 1][j]:
            return False
    return True


def all_tables(room):
    """List the tables of a small room in the order of [6]."""
    rows, columns, height = room
    found = []
    # product tells the lesser number first, the first place slowest: the order of [6].
    for numbers in product(range(height + 1), repeat=rows * columns):
        table = [list(numbers[columns * i:columns * (i + 1)]) for i in range(rows)]
        if told_as_table(room, table):
            found.append(table)
    return found


def with_more(table, place, more):
    """Copy the table with so many boxes more on the place."""
    copy = [list(row) for row in table]
    copy[place[0]][place[1]] += more
    return copy


def fitting_places(room, table, more):
    """List by [4] the places where so many boxes more leave a table of the room."""
    ground = product(range(room[0]), range(room[1]))
    return [place for place in ground if told_as_table(room, with_more(table, place, more))]


def filled(room, number):
    """Return the table of the room with the same number everywhere."""
    return [[number] * room[1] for _ in range(room[0])]


def wide_tables():
    """List some tables of the greatest room."""
    rows, columns, height = WIDEST
    stairs = [[max(0, height - i - j) for j in range(columns)] for i in range(rows)]
    terraces = [[max(0, height - 3 * i - j // 4 * 5) for j in range(columns)] for i in range(rows)]
    walls = [[height] * columns] + [[height] + [0] * (columns - 1) for _ in range(rows - 1)]
    return [filled(WIDEST, 0), filled(WIDEST, 7), filled(WIDEST, height), stairs, terraces, walls]
