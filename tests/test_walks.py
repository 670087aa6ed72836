"""Points 12 and 13: walks."""

import random
import unittest
from fractions import Fraction

from byhand import at, number, random_hall, random_people, random_person, values, walk_by_hand
from selfsight.walks import walk

EMPTY = (3, 3, ())
BEGIN = at("1/2", "1/2")
# Mirrors to the left and the right, plain sides above and below.
PASSAGE = (2, 1, (("up", 0, 0, "p", "m"), ("up", 2, 0, "m", "p")))


def exchanged(pair):
    return (pair[1], pair[0])


def exchanged_hall(hall):
    kinds = {"up": "flat", "flat": "up"}
    sides = tuple((kinds[kind], y, x, one, other) for kind, x, y, one, other in hall[2])
    return (hall[1], hall[0], sides)


def mirrors_all_round(width, height):
    upright = [(("up", 0, y, "p", "m"), ("up", width, y, "m", "p")) for y in range(height)]
    flat = [(("flat", x, 0, "p", "m"), ("flat", x, height, "m", "p")) for x in range(width)]
    return (width, height, tuple(side for pair in upright + flat for side in pair))


class WalkCase(unittest.TestCase):
    def assert_walk(self, hall, people, point, step, most, expected):
        """Asks it as it stands, and with X and Y exchanged."""
        self.assert_told(walk(hall, people, point, step, most), expected)
        word, where, turns = expected
        self.assert_told(walk(exchanged_hall(hall), [exchanged(person) for person in people], exchanged(point),
                              exchanged(step), most), (word, exchanged(where), [exchanged(turn) for turn in turns]))

    def assert_told(self, told, expected):
        self.assertEqual(told, expected)
        self.assertEqual([type(part) for part in told], [str, tuple, list])
        for point in [told[1]] + told[2]:
            self.assertIs(type(point), tuple)
            self.assertEqual([type(part) for part in point], [tuple, tuple])
            self.assertEqual([type(part) for pair in point for part in pair], [int] * 4)

    def assert_as_by_hand(self, hall, people, point, step, most):
        expected = walk_by_hand(hall, people, point, step, most)
        self.assertEqual(walk(hall, people, point, step, most), expected, (hall, people, point, step, most))
        return expected


class WordsTest(WalkCase):
    def test_end(self):
        self.assert_walk(EMPTY, [], BEGIN, at("1/4", "-1/3"), 0, ("end", at("3/4", "1/6"), []))

    def test_plain(self):
        self.assert_walk(EMPTY, [], BEGIN, at(4, "1/2"), 5, ("plain", at(3, "13/16"), []))

    def test_corner(self):
        self.assert_walk(EMPTY, [], BEGIN, at(-1, -1), 5, ("corner", at(0, 0), []))

    def test_many(self):
        self.assert_walk(PASSAGE, [], BEGIN, at(4, "1/4"), 0, ("many", at(2, "19/32"), []))

    def test_person(self):
        people = [at("5/2", "1/2")]
        self.assert_walk(EMPTY, people, BEGIN, at(4, 0), 5, ("person", people[0], []))


class OpenTest(WalkCase):
    def test_open_edges_are_gone_through(self):
        self.assert_walk(EMPTY, [], BEGIN, at("9/4", "7/4"), 0, ("end", at("11/4", "9/4"), []))
        self.assert_walk(EMPTY, [], at("5/2", "1/3"), at("-9/4", "7/4"), 0, ("end", at("1/4", "25/12"), []))

    def test_straight_steps(self):
        for step, end in ((at(2, 0), at("5/2", "1/2")), (at(0, 2), at("1/2", "5/2"))):
            self.assert_walk(EMPTY, [], BEGIN, step, 0, ("end", end, []))
        for step, end in ((at(-2, 0), at("1/2", "5/2")), (at(0, -2), at("5/2", "1/2"))):
            self.assert_walk(EMPTY, [], at("5/2", "5/2"), step, 0, ("end", end, []))

    def test_whole_points_that_are_no_corners(self):
        for begin, step, end in ((BEGIN, at(2, 2), at("5/2", "5/2")), (at("5/2", "1/2"), at(-2, 2), at("1/2", "5/2")),
                                 (at("1/2", "5/2"), at(2, -2), at("5/2", "1/2")),
                                 (at("5/2", "5/2"), at(-2, -2), BEGIN)):
            self.assert_walk(EMPTY, [], begin, step, 0, ("end", end, []))

    def test_whole_points_aslant(self):
        self.assert_walk((5, 5, ()), [], at("1/2", "3/4"), at(4, 2), 0, ("end", at("9/2", "11/4"), []))

    def test_a_side_beside_the_whole_point_makes_no_corner_of_it(self):
        hall = (4, 4, (("up", 3, 1, "m", "m"), ("flat", 0, 3, "m", "m")))
        self.assert_walk(hall, [], BEGIN, at(3, 3), 0, ("end", at("7/2", "7/2"), []))


class CornerTest(WalkCase):
    def test_the_four_corners_of_the_floor(self):
        hall = mirrors_all_round(3, 3)
        for dx, x in ((9, 3), (-9, 0)):
            for dy, y in ((9, 3), (-9, 0)):
                self.assert_walk(hall, [], at("3/2", "3/2"), at(dx, dy), 5, ("corner", at(x, y), []))

    def test_whole_points_of_the_rim(self):
        hall = mirrors_all_round(3, 3)
        self.assert_walk(hall, [], BEGIN, at(5, 1), 5, ("corner", at(3, 1), []))
        self.assert_walk(hall, [], at("3/2", "1/2"), at(3, -3), 5, ("corner", at(2, 0), []))

    def test_both_ends_of_each_edge_within(self):
        for side, ends in ((("up", 1, 1, "m", "m"), [(1, 1), (1, 2)]), (("flat", 1, 1, "p", "p"), [(1, 1), (2, 1)])):
            for x, y in ends:
                for dx in (3, -3):
                    begin = at(Fraction(x) - Fraction(dx, 6), Fraction(y) - Fraction(1, 4))
                    self.assert_walk((3, 3, (side,)), [], begin, at(dx, "3/2"), 5, ("corner", at(x, y), []))

    def test_a_corner_behind_a_reflection(self):
        self.assert_walk(PASSAGE, [], at("3/2", "1/2"), at(4, "4/5"), 3, ("corner", at(0, 1), [at(2, "3/5")]))

    def test_an_end_at_a_corner(self):
        self.assert_walk(EMPTY, [], BEGIN, at("-1/2", "-1/2"), 5, ("corner", at(0, 0), []))
        self.assert_walk(EMPTY, [], BEGIN, at("5/2", "1/2"), 5, ("corner", at(3, 1), []))
        self.assert_walk((3, 3, (("up", 1, 1, "p", "p"),)), [], BEGIN, at("1/2", "1/2"), 0, ("corner", at(1, 1), []))

    def test_an_end_just_ahead_of_a_corner(self):
        self.assert_walk(EMPTY, [], BEGIN, at("-999/2000", "-999/2000"), 5, ("end", at("1/2000", "1/2000"), []))


class FacesTest(WalkCase):
    def test_each_face_of_an_edge_within(self):
        for one in "mp":
            for other in "mp":
                hall = (3, 3, (("up", 1, 1, one, other),))
                self.assert_face(hall, one, at("1/2", "3/2"), at(1, "1/4"))
                self.assert_face(hall, other, at("3/2", "3/2"), at(-1, "1/4"))

    def assert_face(self, hall, face, begin, step):
        met = at(1, "13/8")
        if face == "m":
            self.assert_walk(hall, [], begin, step, 1, ("end", (begin[0], number("7/4")), [met]))
            self.assert_walk(hall, [], begin, step, 0, ("many", met, []))
        else:
            self.assert_walk(hall, [], begin, step, 1, ("plain", met, []))
            self.assert_walk(hall, [], begin, step, 0, ("plain", met, []))

    def test_the_other_edges_of_that_line_are_open(self):
        hall = (3, 3, (("up", 1, 1, "m", "p"),))
        for y in ("1/2", "5/2"):
            self.assert_walk(hall, [], at("1/2", y), at(1, "1/4"), 1,
                             ("end", at("3/2", Fraction(y) + Fraction(1, 4)), []))

    def test_rims(self):
        hall = mirrors_all_round(3, 3)
        self.assert_walk(hall, [], at("3/2", "3/2"), at(2, "1/2"), 1, ("end", at("5/2", 2), [at(3, "15/8")]))
        self.assert_walk(hall, [], at("3/2", "3/2"), at(-2, "1/2"), 1, ("end", at("1/2", 2), [at(0, "15/8")]))

    def test_rims_that_are_not_told_are_plain(self):
        for begin, step, where in ((BEGIN, at(-1, "1/4"), at(0, "5/8")), (BEGIN, at(3, "1/4"), at(3, "17/24"))):
            self.assert_walk(EMPTY, [], begin, step, 9, ("plain", where, []))

    def test_straight_at_a_mirror_and_back(self):
        self.assert_walk(PASSAGE, [], BEGIN, at(4, 0), 2, ("end", BEGIN, [at(2, "1/2"), at(0, "1/2")]))

    def test_a_corner_of_two_mirrors_turns_it_twice(self):
        self.assert_walk(mirrors_all_round(1, 1), [], at("1/2", "1/3"), at(1, 1), 2,
                         ("end", at("1/2", "2/3"), [at(1, "5/6"), at("5/6", 1)]))

    def test_sides_in_any_order(self):
        hall = mirrors_all_round(2, 3)
        told = walk(hall, [], BEGIN, at("17/3", "19/5"), 9)
        self.assertEqual(walk((2, 3, hall[2][::-1]), [], BEGIN, at("17/3", "19/5"), 9), told)
        self.assertEqual(told, walk_by_hand(hall, [], BEGIN, at("17/3", "19/5"), 9))


class EndTest(WalkCase):
    def test_an_end_on_an_edge_of_whatever_it_is(self):
        for sides in ((), (("up", 1, 0, "m", "m"),), (("up", 1, 0, "p", "p"),)):
            for most in (0, 1):
                self.assert_walk((3, 3, sides), [], BEGIN, at("1/2", "1/4"), most, ("end", at(1, "3/4"), []))
                self.assert_walk((3, 3, sides), [], at("3/2", "1/2"), at("-1/2", "1/4"), most,
                                 ("end", at(1, "3/4"), []))

    def test_an_end_on_the_rim(self):
        for hall in (EMPTY, mirrors_all_round(3, 3)):
            self.assert_walk(hall, [], BEGIN, at("5/2", "1/4"), 0, ("end", at(3, "3/4"), []))
            self.assert_walk(hall, [], BEGIN, at("-1/2", "1/4"), 0, ("end", at(0, "3/4"), []))

    def test_an_end_at_a_whole_point_that_is_no_corner(self):
        self.assert_walk(EMPTY, [], BEGIN, at("1/2", "1/2"), 0, ("end", at(1, 1), []))
        self.assert_walk(EMPTY, [], BEGIN, at("3/2", "3/2"), 0, ("end", at(2, 2), []))

    def test_an_end_on_a_mirror_behind_a_reflection(self):
        self.assert_walk(PASSAGE, [], BEGIN, at("7/2", "1/4"), 1, ("end", at(0, "3/4"), [at(2, "17/28")]))


class MostTest(WalkCase):
    def test_none_just_as_many_and_one_fewer(self):
        turns = [at(2, "1/2"), at(0, "1/2"), at(2, "1/2")]
        step = at(6, 0)
        self.assert_walk(PASSAGE, [], BEGIN, step, 0, ("many", turns[0], []))
        self.assert_walk(PASSAGE, [], BEGIN, step, 1, ("many", turns[1], turns[:1]))
        self.assert_walk(PASSAGE, [], BEGIN, step, 2, ("many", turns[2], turns[:2]))
        self.assert_walk(PASSAGE, [], BEGIN, step, 3, ("end", at("3/2", "1/2"), turns))
        self.assert_walk(PASSAGE, [], BEGIN, step, 1000, ("end", at("3/2", "1/2"), turns))

    def test_a_plain_face_is_plain_however_many(self):
        hall = (2, 1, (("up", 2, 0, "m", "p"),))
        for most in (1, 2):
            self.assert_walk(hall, [], BEGIN, at(4, 0), most, ("plain", at(0, "1/2"), [at(2, "1/2")]))

    def test_a_thousand_reflections_and_one_fewer(self):
        hall = mirrors_all_round(1, 1)
        self.assertEqual(len(walk(hall, [], BEGIN, at(1000, 0), 1000)[2]), 1000)
        word, where, turns = walk(hall, [], BEGIN, at(1000, 0), 999)
        self.assertEqual((word, where, len(turns)), ("many", at(0, "1/2"), 999))


class PeopleTest(WalkCase):
    def test_at_the_very_begin_nobody_is_met(self):
        self.assert_walk(EMPTY, [BEGIN], BEGIN, at(1, "1/4"), 0, ("end", at("3/2", "3/4"), []))

    def test_at_the_very_end_nobody_is_met(self):
        end = at("3/2", "3/4")
        self.assert_walk(EMPTY, [end], BEGIN, at(1, "1/4"), 0, ("end", end, []))
        self.assert_walk(EMPTY, [BEGIN, end], BEGIN, at(1, "1/4"), 0, ("end", end, []))
        self.assert_walk(EMPTY, [at("3/4", "1/2")], BEGIN, at("1/4", 0), 0, ("end", at("3/4", "1/2"), []))

    def test_behind_the_begin_and_beyond_the_end(self):
        people = [at("1/4", "1/2"), at("4/5", "1/2")]
        self.assert_walk(EMPTY, people, BEGIN, at("1/4", 0), 0, ("end", at("3/4", "1/2"), []))
        people = [at("1/4", "3/8"), at("4/5", "13/20")]
        self.assert_walk(EMPTY, people, BEGIN, at("1/4", "1/8"), 0, ("end", at("3/4", "5/8"), []))

    def test_just_beside(self):
        for person in (at("3/2", "501/1000"), at("3/2", "499/1000")):
            self.assert_walk(EMPTY, [person], BEGIN, at(2, 0), 0, ("end", at("5/2", "1/2"), []))
        self.assert_walk(EMPTY, [at("3/2", "751/1000")], BEGIN, at(2, "1/2"), 0, ("end", at("5/2", 1), []))

    def test_aslant(self):
        person = at("5/3", "7/6")
        self.assert_walk(EMPTY, [person], BEGIN, at("7/3", "4/3"), 0, ("person", person, []))

    def test_the_nearest_one_is_met(self):
        people = [at("7/4", "1/2"), at("5/4", "1/2"), at("3/2", "1/2"), at("5/2", "1/2")]
        self.assert_walk(EMPTY, people, BEGIN, at(3, 0), 0, ("person", people[1], []))
        self.assert_walk(EMPTY, people, at("11/4", "1/2"), at(-3, 0), 0, ("person", people[3], []))
        self.assert_walk(EMPTY, people, at("15/8", "1/2"), at(-1, 0), 0, ("person", people[0], []))

    def test_oneself_is_met_on_the_way_back(self):
        self.assert_walk(PASSAGE, [BEGIN], BEGIN, at(5, 0), 9,
                         ("person", BEGIN, [at(2, "1/2")]))
        self.assert_walk(PASSAGE, [BEGIN], BEGIN, at(3, 0), 9, ("end", BEGIN, [at(2, "1/2")]))

    def test_a_person_ahead_of_a_mirror_and_behind_it(self):
        ahead = at("7/4", "9/16")
        behind = at("7/4", "11/16")
        self.assert_walk(PASSAGE, [behind, ahead], at("3/2", "1/2"), at(2, "1/2"), 1, ("person", ahead, []))
        self.assert_walk(PASSAGE, [behind], at("3/2", "1/2"), at(2, "1/2"), 1, ("person", behind, [at(2, "5/8")]))

    def test_a_screen_hides_a_person(self):
        hall = (3, 3, (("up", 1, 0, "p", "p"),))
        self.assert_walk(hall, [at("3/2", "1/2")], BEGIN, at(2, 0), 0, ("plain", at(1, "1/2"), []))

    def test_a_person_in_the_last_square_behind_many_reflections(self):
        self.assert_walk(PASSAGE, [at("3/4", "1/2")], at("7/8", "1/2"), at("17/4", 0), 9,
                         ("person", at("3/4", "1/2"), [at(2, "1/2")]))
        self.assert_walk(PASSAGE, [at("3/4", "1/2")], at("7/8", "1/2"), at("9/4", 0), 9,
                         ("end", at("7/8", "1/2"), [at(2, "1/2")]))


class LongTest(WalkCase):
    def folded(self, size, place, part):
        """Where one coordinate ends in a box, and how often it was reflected, without walking."""
        end = place + part
        around = end % (2 * size)
        low, high = sorted((place, end))
        crossed = -(-high // size) - (low // size) - 1
        return min(around, 2 * size - around), crossed

    def assert_long(self, width, height, begin, step):
        hall = mirrors_all_round(width, height)
        (x, across), (y, upward) = [self.folded(size, place, part) for size, place, part
                                    in zip((width, height), values(begin), values(step))]
        word, where, turns = walk(hall, [], begin, step, 10 ** 6)
        self.assertEqual((word, where, len(turns)), ("end", at(x, y), across + upward))

    def test_long_walks_in_boxes(self):
        third = Fraction(4000) - Fraction(1, 3)
        for width, height in ((1, 1), (8, 8), (8, 1), (3, 7)):
            for dx, dy in ((third, Fraction(1, 7)), (-third, Fraction(22, 7)), (Fraction(355, 113), third),
                           (Fraction(3999) + Fraction(1, 10 ** 12 - 11), -third), (-third, -third + Fraction(2, 7))):
                self.assert_long(width, height, at("123/997", "1/1000"), at(dx, dy))

    def test_long_straight_walks(self):
        for step in (at(4000, 0), at(-4000, 0), at(0, 4000), at(0, "-7999/2")):
            self.assert_long(8, 3, at("1/1000", "2/3"), step)

    def test_great_bottoms_by_hand(self):
        chance = random.Random(12)
        for count in range(40):
            hall = random_hall(chance, chance.randrange(1, 9), chance.randrange(1, 9), 0.1, 0.97)
            begin = random_person(chance, hall[0], hall[1], [997, 999, 1000])
            bottom = 10 ** 12 - chance.randrange(1, 10 ** 6)
            step = at(Fraction(chance.randrange(-60 * bottom, 60 * bottom), bottom),
                      Fraction(chance.randrange(-60 * bottom, 60 * bottom), bottom - 1))
            self.assert_as_by_hand(hall, [], begin, step, 1000)


class ManyWalksTest(WalkCase):
    def test_random_walks_by_hand(self):
        chance = random.Random(13)
        words = {}
        for count in range(3000):
            hall = random_hall(chance, chance.randrange(1, 6), chance.randrange(1, 6), chance.choice([0, 0.1, 0.3]),
                               chance.choice([0.6, 0.9, 1]))
            bottoms = chance.choice([[2], [2, 4], [2, 3, 4], [3, 5, 7]])
            people = random_people(chance, hall[0], hall[1], chance.randrange(6), bottoms)
            begin = random_person(chance, hall[0], hall[1], bottoms)
            most_top = chance.choice([6, 30])
            step = at(Fraction(chance.randrange(-most_top, most_top + 1), chance.choice(bottoms)),
                      Fraction(chance.randrange(-most_top, most_top + 1), chance.choice(bottoms)))
            if step != at(0, 0):
                word = self.assert_as_by_hand(hall, people, begin, step, chance.randrange(8))[0]
                words[word] = words.get(word, 0) + 1
        self.assertEqual(sorted(words), ["corner", "end", "many", "person", "plain"])
        self.assertGreater(min(words.values()), 50)


class BelongingTest(WalkCase):
    def test_what_is_handed_in_stays(self):
        people = [at("1/4", "1/4"), at("7/4", "11/16")]
        told = walk(PASSAGE, people, at("3/2", "1/2"), at(2, "1/2"), 1)
        self.assertEqual(people, [at("1/4", "1/4"), at("7/4", "11/16")])
        told[2].clear()
        self.assertEqual(people, [at("1/4", "1/4"), at("7/4", "11/16")])

    def test_the_list_told_belongs_to_the_asker(self):
        expected = ("many", at(0, "1/2"), [at(2, "1/2")])
        first = walk(PASSAGE, [], BEGIN, at(6, 0), 1)
        second = walk(PASSAGE, [], BEGIN, at(6, 0), 1)
        self.assertIsNot(first[2], second[2])
        first[2].append("more")
        self.assertEqual(second, expected)
        self.assertEqual(walk(PASSAGE, [], BEGIN, at(6, 0), 1), expected)

    def test_an_empty_list_is_the_askers_too(self):
        first = walk(EMPTY, [], BEGIN, at(1, 0), 1)
        first[2].append("more")
        self.assertEqual(walk(EMPTY, [], BEGIN, at(1, 0), 1)[2], [])

    def test_what_is_told_stays_when_people_go(self):
        people = [at("5/2", "1/2")]
        told = walk(EMPTY, people, BEGIN, at(4, 0), 5)
        people.clear()
        self.assertEqual(told, ("person", at("5/2", "1/2"), []))
        self.assertEqual(walk(EMPTY, people, BEGIN, at(4, 0), 5), ("plain", at(3, "1/2"), []))


if __name__ == "__main__":
    unittest.main()
