"""Point 20: the middles of two points in a box, through one of which each way between them goes."""

import random
import unittest
from fractions import Fraction

from byhand import at, corners_of, goes_through, path_of, random_people, random_person, told, values
from selfsight.boxes import box
from selfsight.hiding import middles
from selfsight.ways import ways

SIZES = [(1, 1), (2, 1), (1, 3), (2, 2), (3, 2), (4, 4), (8, 5), (8, 8)]


def middles_by_hand(width, height, one, other):
    parts = []
    for size, near, far in zip((width, height), values(one), values(other)):
        half_sum, half_way = (near + far) / 2, abs(near - far) / 2
        parts.append({half_sum, size - half_sum, half_way, size - half_way})
    spots = {(x, y) for x in parts[0] for y in parts[1]}
    spots -= corners_of(box(width, height)) | {tuple(values(one)), tuple(values(other))}
    return [told(spot) for spot in sorted(spots)]


class MiddlesTest(unittest.TestCase):
    def test_sixteen(self):
        # U and V are 5/12 and 1/12 across, 1/2 and 1/10 upward in a height of 3.
        across = ["1/12", "5/12", "7/12", "11/12"]
        upward = ["1/10", "1/2", "5/2", "29/10"]
        self.assertEqual(middles(1, 3, at("1/3", "3/5"), at("1/2", "2/5")), [at(x, y) for x in across for y in upward])

    def test_the_order_of_the_two_does_not_matter(self):
        one, other = at("1/3", "3/5"), at("1/2", "2/5")
        self.assertEqual(middles(1, 3, one, other), middles(1, 3, other, one))

    def test_one_and_the_same(self):
        # 0, 1/3, 2/3 and 1 across, 0, 1/4, 3/4 and 1 upward: the four corners and the point itself are left out.
        self.assertEqual(middles(1, 1, at("1/3", "1/4"), at("1/3", "1/4")), [
            at(0, "1/4"), at(0, "3/4"), at("1/3", 0), at("1/3", "3/4"), at("1/3", 1),
            at("2/3", 0), at("2/3", "1/4"), at("2/3", "3/4"), at("2/3", 1), at(1, "1/4"), at(1, "3/4")])

    def test_one_and_the_same_in_the_middle_of_the_box(self):
        self.assertEqual(middles(1, 1, at("1/2", "1/2"), at("1/2", "1/2")),
                         [at(0, "1/2"), at("1/2", 0), at("1/2", 1), at(1, "1/2")])

    def test_whole_points_within_stay(self):
        # 1 is half the sum across and upward, and half the difference is 1/2.
        found = middles(2, 2, at("1/2", "1/2"), at("3/2", "3/2"))
        self.assertEqual(found, [at("1/2", 1), at("1/2", "3/2"), at(1, "1/2"), at(1, 1), at(1, "3/2"),
                                 at("3/2", "1/2"), at("3/2", 1)])

    def test_whole_points_of_the_rim_that_are_none_of_the_four_go(self):
        # Upward 0, 1/2 and 1, across 1/2, 1 and 3/2: (1, 0) and (1, 1) lie on the rim.
        found = middles(2, 1, at("1/2", "1/2"), at("3/2", "1/2"))
        self.assertEqual(found, [at("1/2", 0), at("1/2", 1), at(1, "1/2"), at("3/2", 0), at("3/2", 1)])

    def test_only_the_points_themselves_are_left_out(self):
        # The X of the one with the Y of the other is a middle like any else: 1/4 is half of both sums.
        found = middles(1, 1, at("1/4", "1/8"), at("1/4", "3/8"))
        self.assertIn(at("1/4", "1/4"), found)
        self.assertNotIn(at("1/4", "1/8"), found)
        self.assertIn(at("3/4", "1/8"), found)

    def test_sorted_as_numbers(self):
        # As tuples (1, 10) comes ahead of (1, 2), and (29, 10) behind (5, 2).
        for one, other in [(at("1/3", "3/5"), at("1/2", "2/5")), (at("9/10", "7/9"), at("1/7", "1/11"))]:
            found = [tuple(values(point)) for point in middles(1, 3, one, other)]
            self.assertEqual(found, sorted(found))
            self.assertEqual(len(found), len(set(found)))

    def test_many(self):
        chance = random.Random(20)
        counts = set()
        for width, height in SIZES:
            for bottoms in ([2], [2, 4], [3, 6, 4], [7, 9, 11], [1000, 999, 997]):
                for turn in range(8):
                    one, other = [random_person(chance, width, height, bottoms) for person in range(2)]
                    other = chance.choice([one, other, other])
                    found = middles(width, height, one, other)
                    self.assertEqual(found, middles_by_hand(width, height, one, other))
                    counts.add(len(found))
        self.assertLessEqual(max(counts), 16)
        self.assertIn(16, counts)
        self.assertGreater(len(counts), 5)

    def test_kinds(self):
        found = middles(3, 2, at("1/2", "1/3"), at("5/2", "1/3"))
        self.assertIs(type(found), list)
        for point in found:
            self.assertEqual([type(part) for part in (point,) + point], [tuple, tuple, tuple])
            for top, bottom in point:
                self.assertEqual((type(top), type(bottom)), (int, int))
                self.assertEqual(Fraction(top, bottom).denominator, bottom)

    def test_each_way_goes_through_one(self):
        chance = random.Random(200)
        seen = 0
        for width, height, most in [(1, 1, 9), (2, 1, 6), (1, 3, 6), (2, 2, 6), (3, 2, 4), (8, 8, 2)]:
            hall = box(width, height)
            for bottoms in ([2], [2, 4], [3, 5, 7]):
                people = random_people(chance, width, height, 2, bottoms)
                for other in range(len(people)):
                    spots = [values(point) for point in middles(width, height, people[0], people[other])]
                    for way in ways(hall, people, 0, other, most):
                        path = path_of(people[0], way)
                        self.assertEqual(told(path[-1]), people[other])
                        self.assertTrue(any(goes_through(path, spot) for spot in spots), (hall[:2], people, way))
                        seen += 1
        self.assertGreater(seen, 1000)

    def test_without_them_some_way_is_missed(self):
        # Each of the sixteen is needed by some way of few reflections: none is told in vain here.
        people = [at("333/1000", "113/997"), at("4/7", "4/9")]
        spots = [values(point) for point in middles(1, 1, people[0], people[1])]
        needed = set()
        for way in ways(box(1, 1), people, 0, 1, 12):
            path = path_of(people[0], way)
            through = [number for number, spot in enumerate(spots) if goes_through(path, spot)]
            self.assertNotEqual(through, [])
            if len(through) == 1:
                needed.add(through[0])
        self.assertEqual(sorted(needed), list(range(16)))


class BelongingTest(unittest.TestCase):
    def test_lists_told_belong_to_the_asker(self):
        first, second, kept = [middles(1, 1, at("1/3", "1/4"), at("1/2", "1/5")) for turn in range(3)]
        first.clear()
        self.assertEqual(second, kept)
        self.assertEqual(middles(1, 1, at("1/3", "1/4"), at("1/2", "1/5")), kept)


if __name__ == "__main__":
    unittest.main()
