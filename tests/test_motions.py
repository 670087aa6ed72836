"""Points 24, 25 and 26: halls turned, mirrored, joined and cut, and edges opened or given a side."""

import random
import unittest
from fractions import Fraction

from byhand import (at, edges_of, is_on_rim, number, random_hall, random_people, random_person, sides_by_edge, told,
                    values)
from selfsight.boxes import box
from selfsight.errors import NoHall
from selfsight.halls import checked
from selfsight.motions import (cut, joined, mirrored, mirrored_point, opened, put, turned, turned_point)
from selfsight.walks import walk
from selfsight.ways import ways

SIZES = [(1, 1), (2, 1), (1, 3), (2, 2), (3, 2), (4, 3), (8, 5), (8, 8)]


def face_spots(hall):
    """A point close ahead of each face of each side that is told, with the face's sign."""
    found = {}
    for kind, x, y, one, other in hall[2]:
        near = Fraction(1, 4)
        if kind == "up":
            found[(x - near, y + 2 * near)] = one
            found[(x + near, y + 2 * near)] = other
        else:
            found[(x + 2 * near, y - near)] = one
            found[(x + 2 * near, y + near)] = other
    return found


def random_halls(seed, share=0.4):
    chance = random.Random(seed)
    for width, height in SIZES:
        for turn in range(3):
            hall = random_hall(chance, width, height, share, 0.5)
            # Some sides of the rim are not told.
            sides = [side for side in hall[2] if not is_on_rim(width, height, *side[:3]) or chance.random() < 0.7]
            yield chance, (width, height, tuple(sides))


def refused_with(call, *arguments):
    try:
        call(*arguments)
    except NoHall as refusal:
        return refusal.side
    return "not refused"


class TurnedTest(unittest.TestCase):
    HALL = (3, 2, (("up", 1, 0, "m", "p"), ("flat", 0, 0, "p", "m"), ("flat", 2, 1, "m", "p"),
                   ("up", 3, 1, "m", "p")))

    def test_turned(self):
        self.assertEqual(turned(self.HALL), (2, 3, (("flat", 0, 3, "m", "p"), ("flat", 1, 1, "m", "p"),
                                                    ("up", 1, 2, "p", "m"), ("up", 2, 0, "m", "p"))))

    def test_mirrored(self):
        self.assertEqual(mirrored(self.HALL), (3, 2, (("flat", 0, 1, "m", "p"), ("flat", 2, 0, "p", "m"),
                                                      ("up", 0, 1, "p", "m"), ("up", 2, 0, "p", "m"))))

    def test_points(self):
        self.assertEqual(turned_point(self.HALL, at("1/3", "1/4")), at("7/4", "1/3"))
        self.assertEqual(mirrored_point(self.HALL, at("1/3", "1/4")), at("8/3", "1/4"))
        self.assertEqual(turned_point(self.HALL, at(3, 2)), at(0, 3))
        self.assertEqual(mirrored_point(self.HALL, at(3, 2)), at(0, 2))
        self.assertEqual(turned_point(self.HALL, at("5/2", "3/2")), at("1/2", "5/2"))

    def test_nothing_told(self):
        self.assertEqual(turned((3, 2, ())), (2, 3, ()))
        self.assertEqual(mirrored((3, 2, ())), (3, 2, ()))

    def test_boxes_stay_boxes(self):
        self.assertEqual(turned(box(3, 2)), box(2, 3))
        self.assertEqual(mirrored(box(3, 2)), box(3, 2))

    def test_faces_go_with_their_sides(self):
        for chance, hall in random_halls(24):
            width, height = hall[:2]
            spots = face_spots(hall)
            self.assertEqual(turned(hall)[:2], (height, width))
            self.assertEqual(face_spots(turned(hall)), {(height - y, x): face for (x, y), face in spots.items()})
            self.assertEqual(mirrored(hall)[:2], (width, height))
            self.assertEqual(face_spots(mirrored(hall)), {(width - x, y): face for (x, y), face in spots.items()})

    def test_told_checked(self):
        for chance, hall in random_halls(240):
            for moved in (turned(hall), mirrored(hall)):
                self.assertEqual(moved, checked(moved))
                self.assertIs(type(moved[2]), tuple)
            other_order = hall[:2] + (tuple(reversed(hall[2])),)
            self.assertEqual(turned(other_order), turned(hall))
            self.assertEqual(mirrored(other_order), mirrored(hall))

    def test_four_times_turned_and_twice_mirrored_is_the_same(self):
        for chance, hall in random_halls(241):
            point = random_person(chance, *hall[:2], [2, 3, 7, 1000])
            now, there = hall, point
            for turn in range(4):
                there = turned_point(now, there)
                now = turned(now)
            self.assertEqual((now, there), (checked(hall), point))
            self.assertEqual(mirrored(mirrored(hall)), checked(hall))
            self.assertEqual(mirrored_point(hall, mirrored_point(hall, point)), point)

    def test_points_go_along(self):
        for chance, hall in random_halls(242):
            point = random_person(chance, *hall[:2], [2, 3, 7, 1000])
            x, y = values(point)
            self.assertEqual(turned_point(hall, point), told([hall[1] - y, x]))
            self.assertEqual(mirrored_point(hall, point), told([hall[0] - x, y]))

    def test_walks_and_ways_go_along(self):
        words = set()
        for chance, hall in random_halls(243, 0.2):
            people = random_people(chance, *hall[:2], 3, [2, 3, 4])
            for move, move_point, move_step in [
                    (turned, turned_point, lambda dx, dy: told([-dy, dx])),
                    (mirrored, mirrored_point, lambda dx, dy: told([-dx, dy]))]:
                others = [move_point(hall, person) for person in people]
                for turn in range(5):
                    step = at(Fraction(chance.randrange(-30, 30), 7), Fraction(chance.randrange(1, 30), 3))
                    most = chance.randrange(3)
                    word, where, turns = walk(hall, people, people[0], step, most)
                    self.assertEqual(walk(move(hall), others, others[0], move_step(*values(step)), most),
                                     (word, move_point(hall, where), [move_point(hall, each) for each in turns]))
                    words.add(word)
                if hall[0] * hall[1] < 9:
                    found = [move_step(*values(way[:2])) for way in ways(hall, people, 0, len(people) - 1, 2)]
                    expected = sorted(found, key=values)
                    moved = ways(move(hall), others, 0, len(people) - 1, 2)
                    self.assertEqual([way[:2] for way in moved], expected)
        self.assertEqual(words, {"end", "plain", "person", "corner", "many"})


class JoinedTest(unittest.TestCase):
    def test_nothing_told(self):
        self.assertEqual(joined((1, 2, ()), (2, 2, ())), (3, 2, (("up", 1, 0, "p", "p"), ("up", 1, 1, "p", "p"))))

    def test_faces_of_either_hall(self):
        one = (1, 2, (("up", 1, 1, "m", "p"), ("up", 0, 0, "p", "m")))
        other = (2, 2, (("up", 0, 0, "p", "m"), ("up", 2, 1, "m", "p"), ("flat", 1, 1, "m", "p"),
                        ("up", 1, 1, "p", "m")))
        self.assertEqual(joined(one, other), (3, 2, (
            ("flat", 2, 1, "m", "p"), ("up", 0, 0, "p", "m"), ("up", 1, 0, "p", "m"), ("up", 1, 1, "m", "p"),
            ("up", 2, 1, "p", "m"), ("up", 3, 1, "m", "p"))))

    def test_boxes(self):
        hall = joined(box(3, 2), box(5, 2))
        self.assertEqual(hall[:2], (8, 2))
        self.assertEqual(len(hall[2]), 2 * 8 + 2 * 3)
        self.assertIn(("up", 3, 1, "m", "m"), hall[2])

    def test_greatest_width(self):
        self.assertEqual(joined((4, 1, ()), (4, 1, ()))[0], 8)
        self.assertEqual(joined((7, 1, ()), (1, 1, ()))[0], 8)
        for one, other in [(4, 5), (8, 1), (1, 8), (8, 8)]:
            self.assertIsNone(refused_with(joined, (one, 1, ()), (other, 1, ())))

    def test_heights_unlike(self):
        self.assertIsNone(refused_with(joined, (1, 2, ()), (1, 1, ())))
        self.assertIsNone(refused_with(joined, (1, 1, ()), (1, 2, ())))
        self.assertIsNone(refused_with(joined, (8, 1, ()), (8, 2, ())))

    def test_many(self):
        chance = random.Random(25)
        for one_width, other_width, height in [(1, 1, 1), (1, 2, 3), (3, 2, 2), (4, 4, 8), (2, 6, 5), (7, 1, 1)]:
            one = random_hall(chance, one_width, height, 0.4, 0.5)
            other = random_hall(chance, other_width, height, 0.4, 0.5)
            one = (one_width, height, one[2][:-3])
            hall = joined(one, other)
            self.assertEqual(hall, checked(hall))
            self.assertEqual(hall[:2], (one_width + other_width, height))
            left, right, whole = sides_by_edge(one), sides_by_edge(other), sides_by_edge(hall)
            for kind, x, y in edges_of(*hall[:2]):
                if kind == "up" and x == one_width:
                    expected = (left[("up", x, y)][0], right[("up", 0, y)][1])
                elif x < one_width:
                    expected = left.get((kind, x, y))
                else:
                    expected = right.get((kind, x - one_width, y))
                self.assertEqual(whole.get((kind, x, y)), expected)

    def test_joined_and_cut_is_the_same_again(self):
        chance = random.Random(250)
        for one_width, other_width, height in [(1, 1, 1), (1, 2, 3), (3, 2, 2), (4, 4, 8), (2, 6, 5), (7, 1, 1)]:
            one = random_hall(chance, one_width, height, 0.4, 0.5)
            other = random_hall(chance, other_width, height, 0.4, 0.5)
            self.assertEqual(cut(joined(one, other), one_width), (checked(one), checked(other)))
            bare = tuple(side for side in one[2] if side[3:] != ("p", "p"))
            back = cut(joined((one_width, height, bare), other), one_width)
            self.assertEqual(sides_by_edge(back[0]), sides_by_edge((one_width, height, bare)))
            added = set(back[0][2]) - set(bare)
            self.assertTrue(all(side[:2] == ("up", one_width) and side[3:] == ("p", "p") for side in added))
            self.assertEqual(back[1], checked(other))


class CutTest(unittest.TestCase):
    HALL = (3, 2, (("up", 1, 0, "m", "m"), ("up", 2, 1, "p", "m"), ("flat", 0, 1, "m", "p"), ("flat", 1, 1, "p", "m"),
                   ("flat", 2, 0, "p", "m"), ("up", 0, 0, "p", "m"), ("up", 3, 1, "m", "p")))

    def test_at_one(self):
        self.assertEqual(cut(self.HALL, 1), (
            (1, 2, (("flat", 0, 1, "m", "p"), ("up", 0, 0, "p", "m"), ("up", 1, 0, "m", "p"))),
            (2, 2, (("flat", 0, 1, "p", "m"), ("flat", 1, 0, "p", "m"), ("up", 0, 0, "p", "m"), ("up", 1, 1, "p", "m"),
                    ("up", 2, 1, "m", "p")))))

    def test_at_two(self):
        self.assertEqual(cut(self.HALL, 2), (
            (2, 2, (("flat", 0, 1, "m", "p"), ("flat", 1, 1, "p", "m"), ("up", 0, 0, "p", "m"), ("up", 1, 0, "m", "m"),
                    ("up", 2, 1, "p", "p"))),
            (1, 2, (("flat", 0, 0, "p", "m"), ("up", 0, 1, "p", "m"), ("up", 1, 1, "m", "p")))))

    def test_open_edges_are_not_told(self):
        self.assertEqual(cut((2, 2, ()), 1), ((1, 2, ()), (1, 2, ())))

    def test_plain_sides_are_told(self):
        self.assertEqual(cut((2, 1, (("up", 1, 0, "p", "p"),)), 1),
                         ((1, 1, (("up", 1, 0, "p", "p"),)), (1, 1, (("up", 0, 0, "p", "p"),))))

    def test_places_that_are_none(self):
        for place in [0, 3, 4, -1, 10 ** 9, True, False, None, "1", "", (1,), [], [1], {}, 1.0, 1.5, b"1", object()]:
            self.assertIsNone(refused_with(cut, self.HALL, place), place)
        for place in [0, 1, 2, True]:
            self.assertIsNone(refused_with(cut, (1, 1, ()), place), place)

    def test_greatest(self):
        for place in range(1, 8):
            left, right = cut(box(8, 8), place)
            self.assertEqual((left[:2], right[:2]), ((place, 8), (8 - place, 8)))

    def test_kinds(self):
        halves = cut(self.HALL, 1)
        self.assertEqual([type(part) for part in (halves,) + halves], [tuple, tuple, tuple])

    def test_many(self):
        for chance, hall in random_halls(251):
            for place in range(1, hall[0]):
                left, right = cut(hall, place)
                self.assertEqual((left, right), (checked(left), checked(right)))
                whole = {side[:3]: side[3:] for side in hall[2]}
                expected = ([], [])
                for (kind, x, y), (one, other) in whole.items():
                    if kind == "up" and x == place:
                        expected[0].append((kind, x, y, one, "p"))
                        expected[1].append((kind, 0, y, "p", other))
                    else:
                        by = 0 if x < place else place
                        expected[x >= place].append((kind, x - by, y, one, other))
                self.assertEqual([left[2], right[2]], [tuple(sorted(sides)) for sides in expected])

    def test_walks_that_do_not_come_to_the_line_are_the_same(self):
        walked = 0
        for chance, hall in random_halls(252):
            for place in range(1, hall[0]):
                halves = cut(hall, place)
                for turn in range(8):
                    person = random_person(chance, *hall[:2], [2, 3, 5])
                    half = int(values(person)[0] >= place)
                    by = place * half
                    step = at(Fraction(chance.randrange(-12, 12), 7), Fraction(chance.randrange(1, 30), 3))
                    word, where, turns = walk(hall, [], person, step, 4)
                    if all((values(spot)[0] > place) == half and values(spot)[0] != place
                           for spot in [person, where] + turns):
                        moved = [told([x - by, y]) for x, y in map(values, [person, where] + turns)]
                        self.assertEqual(walk(halves[half], [], moved[0], step, 4), (word, moved[1], moved[2:]))
                        walked += len(turns) > 0
        self.assertGreater(walked, 30)


class OpenedTest(unittest.TestCase):
    HALL = (2, 2, (("up", 1, 1, "m", "p"), ("flat", 0, 1, "p", "p"), ("up", 0, 0, "p", "m")))

    def test_opened(self):
        self.assertEqual(opened(self.HALL, "up", 1, 1), (2, 2, (("flat", 0, 1, "p", "p"), ("up", 0, 0, "p", "m"))))
        self.assertEqual(opened(self.HALL, "flat", 0, 1), (2, 2, (("up", 0, 0, "p", "m"), ("up", 1, 1, "m", "p"))))

    def test_an_edge_without_a_side(self):
        self.assertIsNone(refused_with(opened, self.HALL, "up", 1, 0))
        self.assertIsNone(refused_with(opened, self.HALL, "flat", 1, 1))
        self.assertIsNone(refused_with(opened, opened(self.HALL, "up", 1, 1), "up", 1, 1))

    def test_the_rim(self):
        for edge in edges_of(2, 2):
            if is_on_rim(2, 2, *edge):
                self.assertIsNone(refused_with(opened, self.HALL, *edge), edge)
                self.assertIsNone(refused_with(opened, box(2, 2), *edge), edge)

    def test_beyond(self):
        for edge in [("up", 3, 1), ("up", -1, 1), ("up", 1, 2), ("up", 1, -1), ("flat", 2, 1), ("flat", -1, 1),
                     ("flat", 0, 3), ("flat", 0, -1), ("up", 10 ** 20, 0)]:
            self.assertIsNone(refused_with(opened, self.HALL, *edge), edge)

    def test_other_kinds(self):
        for x in [True, "1", None, 1.0, (1, 1), [1], {}, object()]:
            self.assertIsNone(refused_with(opened, self.HALL, "up", x, 1), x)
            self.assertIsNone(refused_with(opened, self.HALL, "up", 1, x), x)
            self.assertIsNone(refused_with(opened, self.HALL, "flat", 0, x), x)
        self.assertIsNone(refused_with(opened, self.HALL, "flat", False, 1))
        for kind in ["", "UP", "upright", "|", None, 1]:
            self.assertIsNone(refused_with(opened, self.HALL, kind, 1, 1), kind)

    def test_many(self):
        for chance, hall in random_halls(26):
            for edge in edges_of(*hall[:2]):
                sides = {side[:3]: side for side in hall[2]}
                if edge in sides and not is_on_rim(*hall[:2], *edge):
                    sides.pop(edge)
                    self.assertEqual(opened(hall, *edge), hall[:2] + (tuple(sorted(sides.values())),))
                else:
                    self.assertIsNone(refused_with(opened, hall, *edge))


class PutTest(unittest.TestCase):
    HALL = (2, 2, (("up", 1, 1, "m", "p"), ("up", 0, 0, "p", "m")))

    def test_on_an_open_edge(self):
        self.assertEqual(put(self.HALL, ("flat", 0, 1, "m", "p")), (2, 2, (
            ("flat", 0, 1, "m", "p"), ("up", 0, 0, "p", "m"), ("up", 1, 1, "m", "p"))))
        self.assertEqual(put((2, 1, ()), ("up", 1, 0, "p", "p")), (2, 1, (("up", 1, 0, "p", "p"),)))

    def test_in_the_place_of_another(self):
        self.assertEqual(put(self.HALL, ("up", 1, 1, "p", "m")), (2, 2, (("up", 0, 0, "p", "m"),
                                                                         ("up", 1, 1, "p", "m"))))
        self.assertEqual(put(self.HALL, ("up", 1, 1, "m", "p")), checked(self.HALL))

    def test_the_rim(self):
        for edge in edges_of(2, 2):
            if is_on_rim(2, 2, *edge):
                for faces in [("p", "p"), ("m", "p"), ("p", "m"), ("m", "m")]:
                    self.assertEqual(refused_with(put, self.HALL, edge + faces), 0)

    def test_beyond(self):
        for edge in [("up", 3, 1), ("up", -1, 1), ("up", 1, 2), ("up", 1, -1), ("flat", 2, 1), ("flat", -1, 1),
                     ("flat", 0, 3), ("flat", 0, -1), ("up", 10 ** 20, 0)]:
            self.assertEqual(refused_with(put, self.HALL, edge + ("p", "p")), 0, edge)

    def test_other_kinds(self):
        for x in [True, False, "1", None, 1.0, (1, 1), [1], {}, object()]:
            self.assertEqual(refused_with(put, self.HALL, ("up", x, 1, "p", "p")), 0, x)
            self.assertEqual(refused_with(put, self.HALL, ("up", 1, x, "p", "p")), 0, x)
        for kind in ["", "UP", "upright", "|", None, 1]:
            self.assertEqual(refused_with(put, self.HALL, (kind, 1, 1, "p", "p")), 0, kind)

    def test_faces_that_are_none(self):
        for face in ["", "M", "mp", "x", " ", "pm", None, 1, True]:
            self.assertEqual(refused_with(put, self.HALL, ("up", 1, 0, face, "p")), 0, face)
            self.assertEqual(refused_with(put, self.HALL, ("up", 1, 0, "p", face)), 0, face)

    def test_many(self):
        for chance, hall in random_halls(260):
            for edge in edges_of(*hall[:2]):
                side = edge + (chance.choice("mp"), chance.choice("mp"))
                if is_on_rim(*hall[:2], *edge):
                    self.assertEqual(refused_with(put, hall, side), 0)
                else:
                    sides = {each[:3]: each for each in hall[2]}
                    sides[edge] = side
                    self.assertEqual(put(hall, side), hall[:2] + (tuple(sorted(sides.values())),))
                    without = tuple(each for each in hall[2] if each[:3] != edge)
                    self.assertEqual(opened(put(hall, side), *edge), checked(hall[:2] + (without,)))


class KindsTest(unittest.TestCase):
    def test_points_are_of_numbers_in_lowest_terms(self):
        for move in (turned_point, mirrored_point):
            for point in [at("1/2", "1/2"), at("6/4", "2/6"), at(2, 1)]:
                moved = move((4, 4, ()), point)
                self.assertEqual([type(part) for part in (moved,) + moved], [tuple, tuple, tuple])
                self.assertEqual(moved, tuple(number(value) for value in values(moved)))


if __name__ == "__main__":
    unittest.main()
