"""Points 7, 8 and 9: halls checked, the faces of edges, and corners."""

import unittest
from itertools import permutations

from byhand import edges_of
from selfsight.errors import NoHall
from selfsight.halls import checked, faces, is_corner

NO_WHOLE_NUMBERS = (True, False, None, "1", "", 1.0, (1, 1), [1], {}, b"1")


def squares_beside(kind, x, y):
    """The squares that the faces ONE and OTHER of an edge look into."""
    if kind == "up":
        return [(x - 1, y), (x, y)]
    return [(x, y - 1), (x, y)]


def is_square(width, height, square):
    return square[0] in range(width) and square[1] in range(height)


def mirrors_where_they_may_be(width, height):
    """A side on every edge, with a mirror on each face that looks into the floor."""
    sides = []
    for edge in edges_of(width, height):
        signs = tuple("m" if is_square(width, height, square) else "p" for square in squares_beside(*edge))
        sides.append(edge + signs)
    return tuple(sides)


class HallCase(unittest.TestCase):
    def assert_refused(self, hall, side):
        with self.assertRaises(NoHall) as taken:
            checked(hall)
        self.assertEqual(taken.exception.side, side)
        self.assertIs(type(taken.exception.side), type(side))


class GoodHallsTest(HallCase):
    def test_no_sides(self):
        for width in range(1, 9):
            for height in range(1, 9):
                self.assertEqual(checked((width, height, ())), (width, height, ()))

    def test_least_hall_in_any_order(self):
        sides = (("flat", 0, 0, "p", "m"), ("flat", 0, 1, "m", "p"), ("up", 0, 0, "p", "m"), ("up", 1, 0, "m", "p"))
        for order in permutations(sides):
            self.assertEqual(checked((1, 1, order)), (1, 1, sides))

    def test_greatest_hall_in_many_orders(self):
        sides = mirrors_where_they_may_be(8, 8)
        self.assertEqual(len(sides), 144)
        self.assertEqual(list(sides), sorted(sides))
        for stride in (1, 5, 7, 143):
            order = tuple(sides[k * stride % 144] for k in range(144))
            self.assertEqual(checked((8, 8, order)), (8, 8, sides))

    def test_long_halls(self):
        for width, height in ((1, 8), (8, 1), (3, 5)):
            sides = mirrors_where_they_may_be(width, height)
            self.assertEqual(checked((width, height, sides[::-1])), (width, height, sides))

    def test_all_faces_within(self):
        for one in "mp":
            for other in "mp":
                for kind in ("up", "flat"):
                    side = (kind, 1, 1, one, other)
                    self.assertEqual(checked((3, 3, (side,))), (3, 3, (side,)))

    def test_told_back_as_plain_tuples(self):
        told = checked((2, 2, (("up", 1, 0, "m", "p"), ("flat", 0, 1, "p", "m"))))
        self.assertEqual(told, (2, 2, (("flat", 0, 1, "p", "m"), ("up", 1, 0, "m", "p"))))
        self.assertIs(type(told), tuple)
        self.assertIs(type(told[2]), tuple)

    def test_what_is_handed_in_stays(self):
        hall = (2, 2, (("up", 1, 0, "m", "p"), ("flat", 0, 1, "p", "m")))
        checked(hall)
        self.assertEqual(hall, (2, 2, (("up", 1, 0, "m", "p"), ("flat", 0, 1, "p", "m"))))


class SizesTest(HallCase):
    def test_sizes_beyond(self):
        for size in (0, 9, -1, -8, 100, 10 ** 30):
            self.assert_refused((size, 3, ()), None)
            self.assert_refused((3, size, ()), None)

    def test_sizes_that_are_no_whole_numbers(self):
        for size in NO_WHOLE_NUMBERS:
            self.assert_refused((size, 1, ()), None)
            self.assert_refused((1, size, ()), None)

    def test_sizes_are_refused_ahead_of_sides(self):
        bad = (("round", 0, 0, "p", "p"),)
        self.assert_refused((9, 1, bad), None)
        self.assert_refused((1, True, bad), None)


class SidesTest(HallCase):
    def assert_side_refused(self, width, height, side):
        good = ("flat", 0, 0, "p", "m")
        last = ("flat", 0, height, "m", "p")
        self.assert_refused((width, height, (side,)), 0)
        self.assert_refused((width, height, (good, side, last)), 1)
        self.assert_refused((width, height, (good, last, side)), 2)

    def test_another_kind(self):
        for kind in ("", "u", "UP", "Flat", "updown", "|", None, 0, True, ("up",), ["up"], {}):
            self.assert_side_refused(2, 2, (kind, 1, 1, "m", "m"))

    def test_edges_beyond_the_floor(self):
        for width, height in ((1, 1), (3, 2), (8, 8)):
            on_floor = edges_of(width, height)
            for kind in ("up", "flat"):
                for x in range(-2, width + 3):
                    for y in range(-2, height + 3):
                        side = (kind, x, y, "p", "p")
                        if (kind, x, y) in on_floor:
                            self.assertEqual(checked((width, height, (side,)))[2], (side,))
                        else:
                            self.assert_refused((width, height, (side,)), 0)

    def test_the_ends_of_the_floor(self):
        self.assert_side_refused(3, 2, ("up", 4, 0, "p", "p"))
        self.assert_side_refused(3, 2, ("up", 0, 2, "p", "p"))
        self.assert_side_refused(3, 2, ("up", -1, 0, "p", "p"))
        self.assert_side_refused(3, 2, ("up", 0, -1, "p", "p"))
        self.assert_side_refused(3, 2, ("flat", 3, 0, "p", "p"))
        self.assert_side_refused(3, 2, ("flat", 0, 3, "p", "p"))
        self.assert_side_refused(3, 2, ("flat", -1, 0, "p", "p"))
        self.assert_side_refused(3, 2, ("flat", 0, -1, "p", "p"))

    def test_x_and_y_of_any_kind(self):
        for part in NO_WHOLE_NUMBERS:
            for kind in ("up", "flat"):
                self.assert_side_refused(2, 2, (kind, part, 1, "p", "p"))
                self.assert_side_refused(2, 2, (kind, 1, part, "p", "p"))
                self.assert_side_refused(2, 2, (kind, part, part, "p", "p"))

    def test_faces_that_are_none(self):
        for face in ("", "M", "P", "mp", "x", " ", None, 0, True, ["m"], ("p",), {}):
            for kind in ("up", "flat"):
                self.assert_side_refused(2, 2, (kind, 1, 1, face, "m"))
                self.assert_side_refused(2, 2, (kind, 1, 1, "p", face))
                self.assert_side_refused(2, 2, (kind, 1, 1, face, face))

    def test_a_mirror_that_looks_out_on_each_rim(self):
        for inner in "mp":
            self.assert_side_refused(3, 2, ("up", 0, 1, "m", inner))
            self.assert_side_refused(3, 2, ("up", 3, 1, inner, "m"))
            self.assert_side_refused(3, 2, ("flat", 1, 0, "m", inner))
            self.assert_side_refused(3, 2, ("flat", 1, 2, inner, "m"))

    def test_every_side_of_some_halls(self):
        for width, height in ((1, 1), (1, 3), (2, 2), (8, 8)):
            for edge in edges_of(width, height):
                looks_in = [is_square(width, height, square) for square in squares_beside(*edge)]
                for signs in ("mm", "mp", "pm", "pp"):
                    side = edge + tuple(signs)
                    if all(inside or sign == "p" for inside, sign in zip(looks_in, signs)):
                        self.assertEqual(checked((width, height, (side,)))[2], (side,))
                    else:
                        self.assert_refused((width, height, (side,)), 0)

    def test_an_edge_told_twice(self):
        self.assert_refused((2, 2, (("up", 1, 0, "m", "m"), ("up", 1, 0, "m", "m"))), 1)
        self.assert_refused((2, 2, (("up", 1, 0, "m", "m"), ("up", 1, 1, "p", "p"), ("up", 1, 0, "p", "m"))), 2)
        self.assert_refused((2, 2, (("flat", 0, 0, "p", "m"), ("up", 0, 0, "p", "m"), ("flat", 0, 0, "p", "p"))), 2)

    def test_the_other_kind_at_the_same_point_is_another_edge(self):
        sides = (("flat", 1, 1, "m", "p"), ("up", 1, 1, "m", "p"))
        self.assertEqual(checked((2, 2, sides)), (2, 2, sides))

    def test_the_first_side_at_fault_decides(self):
        good = ("up", 1, 0, "m", "m")
        bad_kind = ("round", 0, 0, "m", "m")
        bad_edge = ("up", 9, 0, "p", "p")
        bad_part = ("up", True, 0, "p", "p")
        bad_face = ("flat", 0, 1, "m", "q")
        bad_rim = ("flat", 0, 0, "m", "m")
        faults = (bad_kind, bad_edge, bad_part, bad_face, bad_rim, good)
        for order in permutations(faults):
            self.assert_refused((2, 2, (good,) + order), 1)

    def test_the_number_is_that_in_the_tuple_handed_in(self):
        # Sorted, the side at fault would come first.
        self.assert_refused((2, 2, (("up", 1, 1, "m", "m"), ("up", 1, 0, "m", "m"), ("flat", 0, 0, "m", "m"))), 2)


class FacesTest(unittest.TestCase):
    HALL = (3, 2, (("up", 1, 0, "m", "p"), ("flat", 2, 1, "p", "m"), ("up", 0, 1, "p", "m"),
                   ("up", 3, 0, "m", "p"), ("flat", 1, 0, "p", "m"), ("flat", 0, 2, "m", "p"),
                   ("up", 2, 1, "p", "p"), ("up", 3, 1, "p", "p")))

    def test_edges_within_that_are_told(self):
        self.assertEqual(faces(self.HALL, "up", 1, 0), ("m", "p"))
        self.assertEqual(faces(self.HALL, "flat", 2, 1), ("p", "m"))
        self.assertEqual(faces(self.HALL, "up", 2, 1), ("p", "p"))

    def test_edges_within_that_are_open(self):
        for edge in (("up", 1, 1), ("up", 2, 0), ("flat", 0, 1), ("flat", 1, 1)):
            self.assertIsNone(faces(self.HALL, *edge))

    def test_rims_edges_that_are_told(self):
        self.assertEqual(faces(self.HALL, "up", 0, 1), ("p", "m"))
        self.assertEqual(faces(self.HALL, "up", 3, 0), ("m", "p"))
        self.assertEqual(faces(self.HALL, "up", 3, 1), ("p", "p"))
        self.assertEqual(faces(self.HALL, "flat", 1, 0), ("p", "m"))
        self.assertEqual(faces(self.HALL, "flat", 0, 2), ("m", "p"))

    def test_rims_edges_that_are_not_told(self):
        for edge in (("up", 0, 0), ("flat", 0, 0), ("flat", 2, 0), ("flat", 1, 2), ("flat", 2, 2)):
            self.assertEqual(faces(self.HALL, *edge), ("p", "p"))

    def test_every_edge_of_an_empty_hall(self):
        for width, height in ((1, 1), (2, 5), (5, 2), (8, 8)):
            for edge in edges_of(width, height):
                looks_in = [is_square(width, height, square) for square in squares_beside(*edge)]
                expected = None if all(looks_in) else ("p", "p")
                self.assertEqual(faces((width, height, ()), *edge), expected)

    def test_every_edge_of_a_full_hall(self):
        sides = mirrors_where_they_may_be(8, 5)
        for side in sides:
            told = faces((8, 5, sides[::-1]), *side[:3])
            self.assertEqual(told, side[3:])
            self.assertIs(type(told), tuple)


class CornersTest(unittest.TestCase):
    def test_all_whole_points_of_the_rim(self):
        for width, height in ((1, 1), (1, 4), (4, 1), (3, 2), (8, 8)):
            for x in range(width + 1):
                for y in range(height + 1):
                    on_rim = x in (0, width) or y in (0, height)
                    self.assertIs(is_corner((width, height, ()), x, y), on_rim)

    def test_both_ends_of_a_side_within(self):
        within = [(x, y) for x in range(1, 5) for y in range(1, 5)]
        for kind, ends in (("up", [(2, 2), (2, 3)]), ("flat", [(2, 2), (3, 2)])):
            for signs in ("mm", "mp", "pm", "pp"):
                hall = (5, 5, ((kind, 2, 2) + tuple(signs),))
                corners = [point for point in within if is_corner(hall, *point)]
                self.assertEqual(corners, ends)

    def test_a_side_that_ends_at_the_rim(self):
        hall = (4, 4, (("flat", 0, 1, "m", "m"), ("up", 2, 3, "p", "p")))
        within = [(x, y) for x in range(1, 4) for y in range(1, 4)]
        self.assertEqual([point for point in within if is_corner(hall, *point)], [(1, 1), (2, 3)])

    def test_told_sides_of_the_rim_make_no_corner_within(self):
        rim = tuple(side for side in mirrors_where_they_may_be(3, 3) if "p" in side)
        self.assertEqual(len(rim), 12)
        for x in (1, 2):
            for y in (1, 2):
                self.assertIs(is_corner((3, 3, rim), x, y), False)

    def test_points_beyond_the_floor_are_none(self):
        for x, y in ((-1, 0), (0, -1), (4, 0), (0, 3), (-1, -1), (4, 3)):
            self.assertIs(is_corner((3, 2, ()), x, y), False)


if __name__ == "__main__":
    unittest.main()
