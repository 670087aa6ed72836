"""Rings: the ways of a lamp's light in a box until it is again where it began."""

from selfsight.amounts import common_divisor
from selfsight.boxes import box
from selfsight.errors import NoRing
from selfsight.walks import walk


def ring(width, height, point, way):
    # Folded out, the light goes the same way again behind each two boxes, so a ring is the shortest step along WAY of
    # twice ACROSS widths and twice UPWARD heights.
    across = way[0] * height
    upward = way[1] * width
    divisor = common_divisor(across, upward)
    across = across // divisor
    upward = upward // divisor
    step = ((2 * width * across, 1), (2 * height * upward, 1))
    count = 2 * (abs(across) + abs(upward))
    told = walk(box(width, height), [], point, step, count)
    if told[0] == "corner":
        raise NoRing(told[1])
    return (step[0], step[1], count)
