"""The floor of a table: the leaning tiles that are seen of the heap, and the ground they cover."""

from boxheap.checks import check_room, check_table, is_whole
from boxheap.errors import NoFloor

KINDS = ("top", "front", "side")


def floor_of(room, table):
    """List the tiles of the floor of the table, rising."""
    check_table(room, table)
    height = room[2]
    tops = [("top", i - number, j - number) for i, row in enumerate(table) for j, number in enumerate(row)]
    fronts = [("front", above(column, h) - h, j - h) for j, column in enumerate(zip(*table)) for h in range(height)]
    sides = [("side", i - h, above(row, h) - h) for i, row in enumerate(table) for h in range(height)]
    return sorted(tops + fronts + sides)


def covered(tile):
    """Return the two triangles that the tile covers, the low one first."""
    kind, u, v = tile
    if kind == "top":
        return ("low", u, v), ("up", u, v)
    if kind == "front":
        return ("low", u - 1, v - 1), ("up", u - 1, v)
    return ("low", u, v - 1), ("up", u - 1, v - 1)


def ground(room):
    """List the triangles of the ground of the room, rising."""
    check_room(room)
    empty = [[0] * room[1] for _ in range(room[0])]
    return all_covered(floor_of(room, empty))


def heap_of(room, tiles):
    """Return the table whose floor these tiles are."""
    check_room(room)
    if not is_floor(room, tiles):
        raise NoFloor("the tiles do not cover just the ground, each triangle once")
    rows, columns = room[0], room[1]
    numbers = {}
    for apart in range(1 - columns, rows):
        for place, u in zip(places_apart(room, apart), tops_apart(tiles, apart)):
            numbers[place] = place[0] - u
    return [[numbers[(i, j)] for j in range(columns)] for i in range(rows)]


def above(numbers, level):
    """Count the numbers that are greater than the level."""
    return len([number for number in numbers if number > level])


def all_covered(tiles):
    """List all triangles that the tiles cover, rising, as often as they are covered."""
    return sorted([triangle for tile in tiles for triangle in covered(tile)])


def is_tile(tile):
    """Tell whether this is a tile."""
    if not isinstance(tile, tuple) or len(tile) != 3:
        return False
    return tile[0] in KINDS and is_whole(tile[1]) and is_whole(tile[2])


def is_floor(room, tiles):
    """Tell whether this is a list of tiles that cover just the ground, each triangle once."""
    if not isinstance(tiles, list) or not all([is_tile(tile) for tile in tiles]):
        return False
    return all_covered(tiles) == ground(room)


def places_apart(room, apart):
    """List the places whose row is so much more than their column, from the corner on."""
    return [(i, i - apart) for i in range(room[0]) if 0 <= i - apart < room[1]]


def tops_apart(tiles, apart):
    """List the first numbers of the tops that belong to these places, in the order of the places."""
    return sorted([u for kind, u, v in tiles if kind == "top" and u - v == apart])
