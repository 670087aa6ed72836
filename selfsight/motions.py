"""Halls turned, mirrored, joined and cut, and single edges opened or given a side."""

from selfsight.amounts import minus
from selfsight.errors import NoHall
from selfsight.halls import checked, faces, is_from_to, is_side, is_within


def turned_side(height, side):
    # Less X becomes less Y, but less Y becomes greater X: so the faces of flat sides change places.
    if side[0] == "up":
        return ("flat", height - side[2] - 1, side[1], side[3], side[4])
    return ("up", height - side[2], side[1], side[4], side[3])


def turned(hall):
    return checked((hall[1], hall[0], tuple([turned_side(hall[1], side) for side in hall[2]])))


def turned_point(hall, point):
    return (minus((hall[1], 1), point[1]), point[0])


def mirrored_side(width, side):
    if side[0] == "up":
        return ("up", width - side[1], side[2], side[4], side[3])
    return ("flat", width - side[1] - 1, side[2], side[3], side[4])


def mirrored(hall):
    return checked((hall[0], hall[1], tuple([mirrored_side(hall[0], side) for side in hall[2]])))


def mirrored_point(hall, point):
    return (minus((hall[0], 1), point[0]), point[1])


def moved_side(side, by):
    return (side[0], side[1] + by, side[2], side[3], side[4])


def is_at_line(side, x):
    return side[0] == "up" and side[1] == x


def joined(one, other):
    # Widths that come to too much checked refuses below, with the same field.
    if one[1] != other[1]:
        raise NoHall(None)
    line = one[0]
    left = [side for side in one[2] if not is_at_line(side, line)]
    right = [moved_side(side, line) for side in other[2] if not is_at_line(side, 0)]
    between = []
    for y in range(one[1]):
        between.append(("up", line, y, faces(one, "up", line, y)[0], faces(other, "up", 0, y)[1]))
    return checked((line + other[0], one[1], tuple(left + between + right)))


def cut(hall, at):
    if not is_from_to(at, 1, hall[0] - 1):
        raise NoHall(None)
    left = []
    right = []
    for side in hall[2]:
        if is_at_line(side, at):
            left.append(("up", at, side[2], side[3], "p"))
            right.append(("up", 0, side[2], "p", side[4]))
        elif side[1] < at:
            left.append(side)
        else:
            right.append(moved_side(side, -at))
    return (checked((at, hall[1], tuple(left))), checked((hall[0] - at, hall[1], tuple(right))))


def sides_without(hall, edge):
    return tuple([side for side in hall[2] if side[:3] != edge])


def opened(hall, kind, x, y):
    if not is_within(hall, kind, x, y) or faces(hall, kind, x, y) is None:
        raise NoHall(None)
    return checked((hall[0], hall[1], sides_without(hall, (kind, x, y))))


def put(hall, side):
    if not is_side(hall[0], hall[1], side) or not is_within(hall, side[0], side[1], side[2]):
        raise NoHall(0)
    return checked((hall[0], hall[1], sides_without(hall, side[:3]) + (side,)))
