"""The lanes of a table: texts of steps to the right and down."""

from boxheap.checks import are_lanes, check_room, check_table, is_table
from boxheap.errors import NoLanes


def lanes_of(room, table):
    """List the lanes of the table, one for each row."""
    check_table(room, table)
    return [lane_of(row, room[2]) for row in table]


def spots(room, number, lane):
    """List the spots of a text of steps from where the lane of this number begins."""
    check_room(room)
    x = room[0] - 1 - number
    y = x + room[2]
    found = [(x, y)]
    for step in lane:
        if step == "r":
            x += 1
        else:
            y -= 1
        found.append((x, y))
    return found


def table_of(room, lanes):
    """Return the table whose lanes these are."""
    check_room(room)
    # The lanes of a table have their ends in order.
    if not are_lanes(room, list(range(room[0])), lanes):
        raise NoLanes("a lane is missing, or one has too many or too few steps")
    table = [row_of(lane, room[2]) for lane in lanes]
    # A lane stays clear of the next one just where no number of the next row is greater than
    # the one in the same column of its own row. So no two lanes meet just where this is a table.
    if not is_table(room, table):
        raise NoLanes("some lanes meet")
    return table


def lane_of(row, height):
    """Return the lane of a row."""
    lane = ""
    ahead = height
    for number in row:
        lane = lane + "d" * (ahead - number) + "r"
        ahead = number
    return lane + "d" * ahead


def row_of(lane, height):
    """Return the row whose lane this is."""
    row = []
    number = height
    for step in lane:
        if step == "r":
            row.append(number)
        else:
            number -= 1
    return row
