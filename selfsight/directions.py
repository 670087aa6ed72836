"""Directions: tuples (P, Q) of two whole numbers without a common divisor above 1."""

from selfsight.amounts import common_divisor

# The one step that has no direction.
NO_STEP = ((0, 1), (0, 1))


def direction(step):
    # Both bottoms are above 0, so multiplying by them keeps the way the step leads.
    across = step[0][0] * step[1][1]
    upward = step[1][0] * step[0][1]
    divisor = common_divisor(across, upward)
    return (across // divisor, upward // divisor)


def quarter(way):
    if way[0] > 0 and way[1] >= 0:
        return 0
    if way[1] > 0:
        return 1
    if way[0] < 0:
        return 2
    return 3


def place_in_turn(way, scale):
    # Within each quarter the part that grows along it, over the other, rises with the turn.
    quarters = quarter(way)
    ahead = abs(way[quarters % 2])
    leftward = abs(way[1 - quarters % 2])
    return (quarters, leftward * scale // ahead)


def in_turn(directions):
    once = {}
    greatest = 0
    for way in directions:
        once[way] = True
        greatest = max(greatest, abs(way[0]), abs(way[1]))
    # Two unlike quotients of parts up to GREATEST lie at least 1 / GREATEST ** 2 apart,
    # so scaled by its square they stay unlike, and in order, when cut to whole numbers.
    scale = greatest * greatest
    return sorted(list(once), key=lambda one: place_in_turn(one, scale))
