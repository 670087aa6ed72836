"""Points 17, 18 and 19: boxes of mirrors, told by folding them out."""

import random
import unittest
from fractions import Fraction

from byhand import at, random_people, told, values, walk_by_hand
from selfsight.boxes import box, cells, how_many, image_at
from selfsight.halls import checked, faces
from selfsight.walks import walk

SIZES = [(1, 1), (2, 1), (1, 3), (2, 2), (3, 2), (5, 4), (8, 8), (8, 1)]


def image_by_hand(width, height, point, cell):
    parts = []
    for size, place, count in zip((width, height), values(point), cell):
        parts.append(count * size + (place if count % 2 == 0 else size - place))
    return parts


def cells_by_hand(width, height, people, one, other, most):
    """By walking in the box."""
    hall = box(width, height)
    found = []
    for i in range(-most, most + 1):
        for j in range(-most, most + 1):
            image = image_by_hand(width, height, people[other], (i, j))
            step = told(there - here for there, here in zip(image, values(people[one])))
            if abs(i) + abs(j) > most or step == at(0, 0):
                continue
            word, where, turns = walk_by_hand(hall, people, people[one], step, abs(i) + abs(j))
            who = people.index(where) if where in people else None
            found.append((i, j, "seen" if word == "end" else word, who))
    return found


class BoxTest(unittest.TestCase):
    def test_least(self):
        self.assertEqual(box(1, 1), (1, 1, (("flat", 0, 0, "p", "m"), ("flat", 0, 1, "m", "p"),
                                            ("up", 0, 0, "p", "m"), ("up", 1, 0, "m", "p"))))

    def test_two_by_one(self):
        self.assertEqual(box(2, 1), (2, 1, (("flat", 0, 0, "p", "m"), ("flat", 0, 1, "m", "p"),
                                            ("flat", 1, 0, "p", "m"), ("flat", 1, 1, "m", "p"),
                                            ("up", 0, 0, "p", "m"), ("up", 2, 0, "m", "p"))))

    def test_all_sizes(self):
        for width in range(1, 9):
            for height in range(1, 9):
                hall = box(width, height)
                self.assertEqual(checked(hall), hall)
                self.assertEqual(hall[:2], (width, height))
                self.assertEqual(len(hall[2]), 2 * (width + height))
                for x in range(width):
                    self.assertEqual(faces(hall, "flat", x, 0), ("p", "m"))
                    self.assertEqual(faces(hall, "flat", x, height), ("m", "p"))
                for y in range(height):
                    self.assertEqual(faces(hall, "up", 0, y), ("p", "m"))
                    self.assertEqual(faces(hall, "up", width, y), ("m", "p"))


class ImageTest(unittest.TestCase):
    POINT = at("1/3", "3/4")

    def assert_image(self, cell, expected):
        found = image_at(3, 2, self.POINT, cell)
        self.assertEqual(found, expected)
        self.assertEqual([type(part) for part in found], [tuple, tuple])

    def test_the_cell_of_oneself(self):
        self.assert_image((0, 0), self.POINT)

    def test_odd_cells_to_each_side(self):
        self.assert_image((1, 0), at("17/3", "3/4"))
        self.assert_image((-1, 0), at("-1/3", "3/4"))
        self.assert_image((0, 1), at("1/3", "13/4"))
        self.assert_image((0, -1), at("1/3", "-3/4"))
        self.assert_image((3, 0), at("35/3", "3/4"))
        self.assert_image((-3, 0), at("-19/3", "3/4"))

    def test_even_cells_to_each_side(self):
        self.assert_image((2, 0), at("19/3", "3/4"))
        self.assert_image((-2, 0), at("-17/3", "3/4"))
        self.assert_image((0, 2), at("1/3", "19/4"))
        self.assert_image((0, -2), at("1/3", "-13/4"))

    def test_odd_and_even_at_once(self):
        self.assert_image((1, -1), at("17/3", "-3/4"))
        self.assert_image((-1, 2), at("-1/3", "19/4"))
        self.assert_image((2, -3), at("19/3", "-19/4"))

    def test_many(self):
        chance = random.Random(17)
        for width, height in SIZES:
            for point in random_people(chance, width, height, 3, [2, 3, 7, 1000]):
                for i in range(-4, 5):
                    for j in range(-4, 5):
                        self.assertEqual(image_at(width, height, point, (i, j)),
                                         told(image_by_hand(width, height, point, (i, j))))

    def test_the_step_to_it_is_a_way_unless_something_is_met(self):
        here, there = at("355/1000", "113/997"), at("1/3", "2/7")
        for i in range(-3, 4):
            for j in range(-3, 4):
                image = values(image_at(1, 1, there, (i, j)))
                step = told(far - near for far, near in zip(image, values(here)))
                word, where, turns = walk(box(1, 1), [], here, step, 6)
                self.assertEqual((word, where, len(turns)), ("end", there, abs(i) + abs(j)))


class CellsTest(unittest.TestCase):
    def test_oneself_alone(self):
        # Aslant each image lies behind a corner, two cells off one's own nearer image hides it.
        people = [at("1/3", "1/4")]
        self.assertEqual(cells(1, 1, people, 0, 0, 0), [])
        self.assertEqual(cells(1, 1, people, 0, 0, 1), [
            (-1, 0, "seen", 0), (0, -1, "seen", 0), (0, 1, "seen", 0), (1, 0, "seen", 0)])
        self.assertEqual(cells(1, 1, people, 0, 0, 2), [
            (-2, 0, "person", 0), (-1, -1, "corner", None), (-1, 0, "seen", 0), (-1, 1, "corner", None),
            (0, -2, "person", 0), (0, -1, "seen", 0), (0, 1, "seen", 0), (0, 2, "person", 0),
            (1, -1, "corner", None), (1, 0, "seen", 0), (1, 1, "corner", None), (2, 0, "person", 0)])

    def test_the_cell_of_the_other_is_told(self):
        people = [at("1/3", "1/4"), at("2/3", "3/4")]
        self.assertEqual(cells(1, 1, people, 0, 1, 0), [(0, 0, "seen", 1)])
        self.assertEqual(cells(1, 1, people, 1, 0, 0), [(0, 0, "seen", 0)])

    def test_somebody_between(self):
        people = [at("1/2", "1/2"), at("5/2", "1/2"), at("3/2", "1/2")]
        self.assertEqual(cells(3, 1, people, 0, 1, 0), [(0, 0, "person", 2)])
        # In the mirror to the left one's own image stands ahead of the other's.
        self.assertEqual(cells(3, 1, people, 0, 1, 1)[0], (-1, 0, "person", 0))
        self.assertEqual(cells(3, 1, people, 0, 0, 1), [
            (-1, 0, "seen", 0), (0, -1, "seen", 0), (0, 1, "seen", 0), (1, 0, "person", 2)])

    def test_the_nearer_image_of_the_other_hides(self):
        people = [at("1/2", "1/2"), at("3/2", "1/2")]
        self.assertEqual([cell for cell in cells(2, 1, people, 0, 1, 3) if cell[1] == 0], [
            (-3, 0, "person", 0), (-2, 0, "person", 0), (-1, 0, "person", 0), (0, 0, "seen", 1), (1, 0, "person", 1),
            (2, 0, "person", 1), (3, 0, "person", 1)])

    def test_whole_points_between_the_corners_of_the_floor(self):
        # The straight way to the image above leads through (1, 1), in the middle of the upper side.
        people = [at("1/2", "1/2"), at("3/2", "1/2")]
        self.assertIn((0, 1, "corner", None), cells(2, 1, people, 0, 1, 1))
        # Within the floor (1, 1) is no corner.
        self.assertEqual(cells(2, 2, [at("1/2", "1/2"), at("3/2", "3/2")], 0, 1, 0), [(0, 0, "seen", 1)])

    def test_each_cell_once_and_in_order(self):
        people = [at("1/3", "2/7"), at("3/5", "5/6")]
        for most in range(6):
            numbers = range(-most, most + 1)
            expected = [(i, j) for i in numbers for j in numbers if abs(i) + abs(j) <= most]
            self.assertEqual([cell[:2] for cell in cells(1, 1, people, 0, 1, most)], expected)
            expected.remove((0, 0))
            self.assertEqual([cell[:2] for cell in cells(1, 1, people, 1, 1, most)], expected)

    def test_as_walks_tell(self):
        chance = random.Random(18)
        words = {}
        for width, height in SIZES:
            for bottoms in ([2], [2, 4], [3, 4, 6], [5, 7]):
                people = random_people(chance, width, height, chance.randrange(1, 6), bottoms)
                for other in range(len(people)):
                    most = chance.randrange(5)
                    found = cells(width, height, people, 0, other, most)
                    self.assertEqual(found, cells_by_hand(width, height, people, 0, other, most))
                    for cell in found:
                        words[cell[2]] = words.get(cell[2], 0) + 1
        self.assertEqual(sorted(words), ["corner", "person", "seen"])
        self.assertGreater(min(words.values()), 100)

    def test_the_greatest(self):
        people = random_people(random.Random(180), 8, 8, 8, [2, 3, 4])
        found = cells(8, 8, people, 0, 1, 12)
        self.assertEqual(len(found), 313)
        self.assertEqual(found, cells_by_hand(8, 8, people, 0, 1, 12))
        self.assertEqual(len(cells(8, 8, people, 1, 1, 12)), 312)

    def test_kinds(self):
        for cell in cells(2, 3, [at("1/2", "1/2"), at("3/2", "5/2")], 0, 1, 4):
            self.assertIs(type(cell), tuple)
            self.assertEqual([type(part) for part in cell[:3]], [int, int, str])
            self.assertIn(type(cell[3]), (int, type(None)))


class HowManyTest(unittest.TestCase):
    def test_oneself_alone(self):
        people = [at("1/3", "1/4")]
        self.assertEqual([how_many(1, 1, people, 0, 0, most) for most in (0, 1, 2)], [0, 4, 4])

    def test_another(self):
        people = [at("1/3", "1/4"), at("2/3", "3/4")]
        self.assertEqual([how_many(1, 1, people, 0, 1, most) for most in (0, 1)], [1, 5])

    def test_as_many_as_are_seen(self):
        chance = random.Random(19)
        for width, height in SIZES:
            people = random_people(chance, width, height, 4, [2, 3, 4])
            for other in range(len(people)):
                found = cells_by_hand(width, height, people, 0, other, 3)
                expected = len([cell for cell in found if cell[2] == "seen"])
                self.assertEqual(how_many(width, height, people, 0, other, 3), expected)

    def test_as_many_as_their_directions(self):
        people = [at("1/3", "1/4"), at("2/3", "3/4"), at("1/2", "1/2")]
        slopes = set()
        for i, j, word, who in cells(1, 1, people, 0, 1, 6):
            if word == "seen":
                x, y = [far - near for far, near in zip(image_by_hand(1, 1, people[1], (i, j)), values(people[0]))]
                slopes.add((Fraction(y, x) if x else None, x > 0, y > 0))
        self.assertEqual(how_many(1, 1, people, 0, 1, 6), len(slopes))


class BelongingTest(unittest.TestCase):
    def test_what_is_handed_in_stays(self):
        people = [at("1/3", "1/4"), at("2/3", "3/4")]
        cells(1, 1, people, 0, 1, 3)
        how_many(1, 1, people, 0, 1, 3)
        self.assertEqual(people, [at("1/3", "1/4"), at("2/3", "3/4")])

    def test_lists_told_belong_to_the_asker(self):
        people = [at("1/3", "1/4"), at("2/3", "3/4")]
        first, second, kept = [cells(1, 1, people, 0, 1, 3) for turn in range(3)]
        self.assertIs(type(first), list)
        first.clear()
        self.assertEqual(second, kept)
        self.assertEqual(cells(1, 1, people, 0, 1, 3), kept)


if __name__ == "__main__":
    unittest.main()
