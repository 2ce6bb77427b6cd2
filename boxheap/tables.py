"""Tables of a room: their boxes, the changes by one box, their climb and their order."""

from boxheap.checks import check_table, is_place
from boxheap.errors import NoPlace


def boxes(room, table):
    """Count the boxes of the table."""
    check_table(room, table)
    return sum([sum(row) for row in table])


def puts(room, table):
    """List the places on which a box may be put."""
    check_table(room, table)
    return [place for place in ground_places(room) if may_put(room, table, place)]


def takes(room, table):
    """List the places from which a box may be taken."""
    check_table(room, table)
    return [place for place in ground_places(room) if may_take(room, table, place)]


def put(room, table, place):
    """Return the table with one box more on the place."""
    check_table(room, table)
    if not is_place(room, place) or not may_put(room, table, place):
        raise NoPlace("no box may be put on this place")
    return changed(table, place, 1)


def take(room, table, place):
    """Return the table with one box fewer on the place."""
    check_table(room, table)
    if not is_place(room, place) or not may_take(room, table, place):
        raise NoPlace("no box may be taken from this place")
    return changed(table, place, -1)


def climb(room, table):
    """List the places on which the boxes are put, one by one, from the empty table on."""
    check_table(room, table)
    places = ground_places(room)
    return [(row, column) for level in range(room[2]) for row, column in places if table[row][column] > level]


def after(room, table):
    """Return the next table of the room, or None behind the last one."""
    places = puts(room, table)
    if not places:
        return None
    # The lesser the change and the further behind it stands, the nearer the table:
    # one box more on the last place that takes one, and noughts on all places behind.
    row, column = places[-1]
    columns = room[1]
    ahead = [list(numbers) for numbers in table[:row]]
    raised = table[row][:column] + [table[row][column] + 1] + [0] * (columns - column - 1)
    behind = [[0] * columns for _ in table[row + 1:]]
    return ahead + [raised] + behind


def ground_places(room):
    """List all places of the ground, row by row, from the left."""
    return [(row, column) for row in range(room[0]) for column in range(room[1])]


def may_put(room, table, place):
    """Tell whether the table with one box more on this place of the ground is one, too."""
    row, column = place
    height = room[2]
    left = table[row][column - 1] if column > 0 else height
    ahead = table[row - 1][column] if row > 0 else height
    return table[row][column] < min(left, ahead)


def may_take(room, table, place):
    """Tell whether the table with one box fewer on this place of the ground is one, too."""
    row, column = place
    right = table[row][column + 1] if column + 1 < room[1] else 0
    behind = table[row + 1][column] if row + 1 < room[0] else 0
    return table[row][column] > max(right, behind)


def changed(table, place, more):
    """Copy the table, with so many boxes more on the place."""
    row, column = place
    copy = [list(numbers) for numbers in table]
    copy[row][column] = copy[row][column] + more
    return copy
