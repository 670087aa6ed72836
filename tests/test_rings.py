"""Point 23: the ring of a lamp's light in a box."""

import random
import unittest
from fractions import Fraction
from math import gcd

from byhand import at, corners_of, is_on_stretch, random_person, told, values, walk_by_hand
from selfsight.boxes import box
from selfsight.errors import NoRing
from selfsight.rings import ring
from selfsight.walks import walk

WAYS = [(p, q) for p in range(-4, 5) for q in range(-4, 5) if gcd(p, q) == 1]


def ring_by_hand(width, height, point, way):
    """Goes from rim to rim until the light is back, heading as at first: a step and a count, or a corner."""
    corners = corners_of(box(width, height))
    sizes, start = (width, height), values(point)
    place, speed, gone, count = list(start), list(way), Fraction(0), 0
    while True:
        shares = [((size if by > 0 else 0) - mine) / by for size, mine, by in zip(sizes, place, speed) if by != 0]
        far = [mine + min(shares) * by for mine, by in zip(place, speed)]
        if speed == list(way) and count > 0 and is_on_stretch(place, far, start):
            part = 0 if speed[0] != 0 else 1
            gone += (start[part] - place[part]) / speed[part]
            return told(gone * by for by in way) + (count,)
        if tuple(far) in corners:
            return told(far)
        gone, count, place = gone + min(shares), count + 1, far
        speed = [-by if mine in (0, size) else by for mine, by, size in zip(place, speed, sizes)]


def found_by_ring(width, height, point, way):
    try:
        return ring(width, height, point, way)
    except NoRing as refused:
        return refused.point


class RingTest(unittest.TestCase):
    def test_straight(self):
        for way, step in [((1, 0), at(6, 0)), ((-1, 0), at(-6, 0)), ((0, 1), at(0, 4)), ((0, -1), at(0, -4))]:
            self.assertEqual(ring(3, 2, at("1/2", "1/3"), way), step + (2,))

    def test_aslant_in_a_square(self):
        for way in [(1, 1), (1, -1), (-1, 1), (-1, -1)]:
            self.assertEqual(ring(1, 1, at("1/3", "1/4"), way), at(2 * way[0], 2 * way[1]) + (4,))

    def test_aslant_in_a_box(self):
        # 12 to the right is twice there and back, 12 upward three times.
        self.assertEqual(ring(3, 2, at("1/3", "1/4"), (1, 1)), at(12, 12) + (10,))
        self.assertEqual(ring(3, 2, at("1/3", "1/4"), (3, -2)), at(6, -4) + (4,))
        self.assertEqual(ring(2, 4, at("1/3", "1/4"), (-1, 2)), at(-4, 8) + (4,))
        self.assertEqual(ring(4, 2, at("1/3", "1/5"), (1, 2)), at(8, 16) + (10,))

    def test_steps_shorter_than_the_direction(self):
        self.assertEqual(ring(1, 1, at("1/3", "1/5"), (5, 7)), at(10, 14) + (24,))
        self.assertEqual(ring(7, 5, at("1/3", "1/4"), (7, 5)), at(14, 10) + (4,))

    def test_where_it_comes_back_the_other_way_is_no_ring(self):
        # In the middle of the width the light is back behind 1, but goes the other way then.
        self.assertEqual(ring(1, 1, at("1/2", "1/3"), (1, 0)), at(2, 0) + (2,))
        # Behind (2, 1) it goes through its lamp, but downward: the ring crosses itself there.
        point = at("1/4", "1/2")
        self.assertEqual(walk(box(1, 1), [], point, at(2, 1), 3)[:2], ("end", point))
        self.assertEqual(ring(1, 1, point, (2, 1)), at(4, 2) + (6,))

    def test_the_four_outer_corners(self):
        middle = at("1/2", "1/2")
        for way, corner in [((1, 1), at(1, 1)), ((1, -1), at(1, 0)), ((-1, 1), at(0, 1)), ((-1, -1), at(0, 0))]:
            with self.assertRaises(NoRing) as caught:
                ring(1, 1, middle, way)
            self.assertEqual(caught.exception.point, corner)

    def test_whole_points_of_the_rim_between_them(self):
        with self.assertRaises(NoRing) as caught:
            ring(3, 2, at("1/2", "3/2"), (1, 1))
        self.assertEqual(caught.exception.point, at(1, 2))
        with self.assertRaises(NoRing) as caught:
            ring(2, 3, at("3/2", "1/2"), (-3, 1))
        self.assertEqual(caught.exception.point, at(0, 1))

    def test_whole_points_within_are_passed(self):
        # Through (1, 1) of the floor to its corner.
        with self.assertRaises(NoRing) as caught:
            ring(2, 2, at("1/2", "1/2"), (1, 1))
        self.assertEqual(caught.exception.point, at(2, 2))
        # Through (1, 1), and then past all whole points of the rim, since X is odd at each whole point.
        self.assertEqual(ring(2, 3, at("1/2", "1/4"), (2, 3)), at(4, 6) + (4,))

    def test_a_corner_behind_reflections(self):
        # Reflected at (1/2, 1) it comes to (1, 0); folded out that is (1, 2).
        with self.assertRaises(NoRing) as caught:
            ring(1, 1, at("1/4", "1/2"), (1, 2))
        self.assertEqual(caught.exception.point, at(1, 0))
        # Reflected at (0, 1/4) and (1/3, 0) it comes to (3, 2); folded out that is (-3, -2).
        with self.assertRaises(NoRing) as caught:
            ring(3, 2, at("1/3", "1/2"), (-4, -3))
        self.assertEqual(caught.exception.point, at(3, 2))

    def test_many(self):
        chance = random.Random(23)
        rings = corners = between = 0
        for width, height in [(1, 1), (2, 1), (1, 3), (2, 2), (3, 2), (4, 2), (5, 8), (8, 8)]:
            for bottoms in ([2], [2, 3, 4], [5, 7]):
                for way in chance.sample(WAYS, 16):
                    point = random_person(chance, width, height, bottoms)
                    expected = ring_by_hand(width, height, point, way)
                    self.assertEqual(found_by_ring(width, height, point, way), expected)
                    rings += len(expected) == 3
                    corners += len(expected) == 2
                    outer = [at(x, y) for x in (0, width) for y in (0, height)]
                    between += len(expected) == 2 and expected not in outer
        self.assertGreater(min(rings, corners, between), 30)

    def test_walked_in_that_box_it_comes_back(self):
        chance = random.Random(230)
        for width, height in [(1, 1), (2, 1), (3, 2), (8, 5)]:
            for way in WAYS:
                # Bottoms of which neither divides a part of the way times the other: no whole point is met.
                point = (random_person(chance, width, height, [7])[0], random_person(chance, width, height, [11])[1])
                dx, dy, count = ring(width, height, point, way)
                for going in (walk, walk_by_hand):
                    word, where, turns = going(box(width, height), [], point, (dx, dy), count)
                    self.assertEqual((word, where, len(turns)), ("end", point, count))

    def test_two_thousand_sides(self):
        point = at("1/997", "500/999")
        for width, height, way, step in [(8, 8, (999, 1), at(15984, 16)), (8, 8, (-499, 501), at(-7984, 8016)),
                                         (1, 8, (1, -7992), at(2, -15984))]:
            self.assertEqual(ring(width, height, point, way), step + (2000,))
            self.assertEqual(ring_by_hand(width, height, point, way), step + (2000,))

    def test_kinds(self):
        dx, dy, count = ring(3, 2, at("1/3", "1/4"), (1, 1))
        self.assertEqual([type(part) for part in dx + dy + (count,)], [int] * 5)
        self.assertIs(type(ring(3, 2, at("1/3", "1/4"), (1, 1))), tuple)
        self.assertEqual(ring(3, 2, at("1/3", "1/4"), (1, 0))[1], (0, 1))
        corner = found_by_ring(1, 1, at("1/2", "1/2"), (1, 1))
        self.assertEqual([type(part) for part in (corner,) + corner], [tuple, tuple, tuple])


if __name__ == "__main__":
    unittest.main()
