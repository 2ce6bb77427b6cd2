"""Families of lanes, which may meet, and the count of the tables of a room by them."""

from itertools import combinations, permutations
from math import comb

from boxheap.checks import are_lanes, check_room, is_whole
from boxheap.errors import NoLanes
from boxheap.lanes import spots


def choose(many, few):
    """Tell in how many ways so few of many things can be taken."""
    if few < 0 or few > many:
        return 0
    return comb(many, few)


def sign(ends):
    """Return 1 where the number of pairs out of their order is even, else -1."""
    wrong = [ahead for ahead, behind in combinations(ends, 2) if ahead > behind]
    return 1 if len(wrong) % 2 == 0 else -1


def turned(room, ends, lanes):
    """Return the ends and the lanes of the turned family, or None where no two lanes meet."""
    check_room(room)
    if not is_family(room, ends, lanes):
        raise NoLanes("this is no family of the room")
    meeting = first_meeting([spots(room, number, lane) for number, lane in enumerate(lanes)])
    if meeting is None:
        return None
    k, m, at = meeting
    new_lanes = list(lanes)
    new_lanes[k] = lanes[k][:at] + lanes[m][at:]
    new_lanes[m] = lanes[m][:at] + lanes[k][at:]
    new_ends = list(ends)
    new_ends[k] = ends[m]
    new_ends[m] = ends[k]
    return new_ends, new_lanes


def count(room):
    """Count the tables of the room by the families of lanes."""
    check_room(room)
    rows, columns, height = room
    ways = [[choose(columns + height, columns + k - m) for m in range(rows)] for k in range(rows)]
    total = 0
    for ends in permutations(range(rows)):
        term = sign(ends)
        for ways_from, end in zip(ways, ends):
            term = term * ways_from[end]
        total += term
    return total


def is_family(room, ends, lanes):
    """Tell whether the lanes lead to these ends, each end of the room once."""
    if not isinstance(ends, list) or not all([is_whole(end) for end in ends]):
        return False
    return sorted(ends) == list(range(room[0])) and are_lanes(room, ends, lanes)


def first_meeting(ways):
    """Return the two lanes that meet first and after how many steps, or None where none meet.

    The ways are lists of the spots of the lanes, one for each lane.
    """
    # Each step makes x - y one more, and each lane begins with the same x - y: lanes that
    # have a spot in common have taken equally many steps to it. And the lanes ahead of k
    # meet none, or they would have been found, so only those behind k are looked at.
    for k, way in enumerate(ways):
        for at, spot in enumerate(way):
            for m in range(k + 1, len(ways)):
                if ways[m][at] == spot:
                    return k, m, at
    return None
