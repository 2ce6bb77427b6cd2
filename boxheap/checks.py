"""What a room, its tables, its lanes and a place on its ground are."""

from boxheap.errors import NoRoom, NoTable

# The most rows, columns and boxes on one another that a room may have.
MOST = (6, 20, 20)


def is_whole(value):
    """Tell whether the value is a whole number."""
    # Python counts True and False among the integers, the document doesn't.
    return isinstance(value, int) and not isinstance(value, bool)


def is_room(room):
    """Tell whether this is a room."""
    if not isinstance(room, tuple) or len(room) != len(MOST):
        return False
    return all([is_whole(number) and 1 <= number <= most for number, most in zip(room, MOST)])


def is_row(row, columns, height):
    """Tell whether this is a list of so many numbers from nought to the height."""
    if not isinstance(row, list) or len(row) != columns:
        return False
    return all([is_whole(number) and 0 <= number <= height for number in row])


def never_rises(numbers):
    """Tell whether no number is greater than the one ahead of it."""
    return all([number <= ahead for ahead, number in zip(numbers, numbers[1:])])


def is_table(room, table):
    """Tell whether this is a table of the room."""
    rows, columns, height = room
    if not isinstance(table, list) or len(table) != rows:
        return False
    # What is no number can't be compared, so the rows are looked at first.
    if not all([is_row(row, columns, height) for row in table]):
        return False
    if not all([never_rises(row) for row in table]):
        return False
    return all([never_rises(column) for column in zip(*table)])


def is_place(room, place):
    """Tell whether this is a place on the ground of the room."""
    if not isinstance(place, tuple) or len(place) != 2:
        return False
    # A number below nought would count from the end of a list, so it is kept out.
    return all([is_whole(number) and 0 <= number < many for number, many in zip(place, room)])


def is_lane(lane, rights, downs):
    """Tell whether this is a text of so many steps to the right and so many down."""
    if not isinstance(lane, str) or len(lane) != rights + downs:
        return False
    # In a narrow or low room fewer than no steps may be asked for: no text has so many.
    return lane.count("r") == rights and lane.count("d") == downs


def are_lanes(room, ends, lanes):
    """Tell whether this is a list of lanes, one for each row, that lead to these ends."""
    rows, columns, height = room
    if not isinstance(lanes, list) or len(lanes) != rows:
        return False
    return all([is_lane(lanes[k], columns + k - ends[k], height - k + ends[k]) for k in range(rows)])


def check_room(room):
    """Refuse what is no room."""
    # The message doesn't show the value: a great number can't be written out.
    if not is_room(room):
        raise NoRoom("a room is a tuple of 1 to 6 rows, 1 to 20 columns and a height of 1 to 20")


def check_table(room, table):
    """Refuse what is no room, and then what is no table of it."""
    check_room(room)
    if not is_table(room, table):
        raise NoTable("this is no table of the room")
