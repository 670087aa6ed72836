"""Points 14, 15 and 16: ways from one person to another, and images."""

import random
import unittest
from fractions import Fraction

from byhand import at, number, random_hall, random_people, told, values, walk_by_hand
from selfsight.walks import walk
from selfsight.ways import images, ways

BOX = (1, 1, (("flat", 0, 0, "p", "m"), ("flat", 0, 1, "m", "p"), ("up", 0, 0, "p", "m"), ("up", 1, 0, "m", "p")))
# Three squares in a row, mirrors at the left and the right end.
PASSAGE = (3, 1, (("up", 3, 0, "m", "p"), ("up", 0, 0, "p", "m")))
ONE = at("1/3", "1/4")
OTHER = at("2/3", "3/4")


def line_images(hall, point, most):
    """All that at most MOST reflections in whole lines of the floor make of a point."""
    found = {tuple(values(point))}
    for turn in range(most):
        across = {(2 * line - x, y) for x, y in found for line in range(hall[0] + 1)}
        upward = {(x, 2 * line - y) for x, y in found for line in range(hall[1] + 1)}
        found |= across | upward
    return found


def ways_by_hand(hall, people, one, other, most):
    begin = values(people[one])
    found = []
    for image in sorted(line_images(hall, people[other], most)):
        step = told(there - here for there, here in zip(image, begin))
        if step != at(0, 0):
            word, where, turns = walk_by_hand(hall, people, people[one], step, most)
            if word == "end" and where == people[other]:
                found.append((step[0], step[1], turns))
    return found


def images_by_hand(hall, people, one, other, most, reach):
    (x, y), begin = values(people[other]), values(people[one])
    steps = set()
    for i in range(-reach - 5, reach + 6):
        for j in range(-reach - 5, reach + 6):
            for image in ((x + 2 * i, y + 2 * j), (2 * i - x, y + 2 * j), (x + 2 * i, 2 * j - y),
                          (2 * i - x, 2 * j - y)):
                steps.add(tuple(there - here for there, here in zip(image, begin)))
    found = []
    for step in sorted(steps - {(0, 0)}):
        if all(-reach <= part <= reach for part in step):
            word, where, turns = walk_by_hand(hall, people, people[one], told(step), most)
            if word == "end" and where == people[other]:
                word = "seen"
            found.append(told(step) + (word, where))
    return found


class WaysCase(unittest.TestCase):
    def assert_ways(self, hall, people, one, other, most, expected):
        found = ways(hall, people, one, other, most)
        self.assertEqual(found, expected, (hall, people, one, other, most))
        self.assertIs(type(found), list)
        for way in found:
            self.assertEqual([type(part) for part in way], [tuple, tuple, list])
        return found


class BoxTest(WaysCase):
    def test_straight_ahead_alone(self):
        self.assert_ways(BOX, [ONE, OTHER], 0, 1, 0, [(number("1/3"), number("1/2"), [])])
        self.assert_ways(BOX, [ONE, OTHER], 1, 0, 0, [(number("-1/3"), number("-1/2"), [])])

    def test_one_reflection_at_each_of_the_four_mirrors(self):
        self.assert_ways(BOX, [ONE, OTHER], 0, 1, 1, [
            at(-1, "1/2") + ([at(0, "5/12")],),
            at("1/3", -1) + ([at("5/12", 0)],),
            at("1/3", "1/2") + ([],),
            at("1/3", 1) + ([at("7/12", 1)],),
            at(1, "1/2") + ([at(1, "7/12")],)])

    def test_to_oneself(self):
        straight = [at("-2/3", 0) + ([at(0, "1/4")],), at(0, "-1/2") + ([at("1/3", 0)],),
                    at(0, "3/2") + ([at("1/3", 1)],), at("4/3", 0) + ([at(1, "1/4")],)]
        self.assert_ways(BOX, [ONE], 0, 0, 0, [])
        self.assert_ways(BOX, [ONE], 0, 0, 1, straight)
        # Two reflections at two mirrors lead through a corner, at two that face each other past oneself.
        self.assert_ways(BOX, [ONE], 0, 0, 2, straight)

    def test_a_way_from_oneself_is_hidden_by_the_other_and_by_oneself(self):
        people = [at("1/3", "1/4"), at("2/3", "1/4")]
        self.assert_ways(BOX, people, 0, 0, 1, [at("-2/3", 0) + ([at(0, "1/4")],), at(0, "-1/2") + ([at("1/3", 0)],),
                                                at(0, "3/2") + ([at("1/3", 1)],)])

    def test_just_as_many_as_the_bounds_allow(self):
        people = [at("1/1000", "3/997"), at("355/452", "1/2")]
        found = ways(BOX, people, 0, 1, 23)
        for dx, dy, turns in found:
            self.assertEqual(walk(BOX, people, people[0], (dx, dy), 23), ("end", people[1], turns))
        self.assertGreater(len(found), 500)
        self.assertEqual(max(len(turns) for dx, dy, turns in found), 23)
        self.assertGreater(max(Fraction(*dx) for dx, dy, turns in found), 23)


class PassageTest(WaysCase):
    HERE = at("1/2", "1/2")
    THERE = at("5/2", "1/2")
    BETWEEN = at("3/2", "1/2")

    def test_through_open_edges(self):
        people = [self.HERE, self.THERE]
        self.assert_ways(PASSAGE, people, 0, 1, 0, [at(2, 0) + ([],)])
        # To either side one comes back upon oneself, or upon the other, ahead of the image.
        self.assert_ways(PASSAGE, people, 0, 1, 1, [at(2, 0) + ([],)])
        aslant = [at("1/2", "1/4"), at("5/2", "3/4")]
        self.assert_ways(PASSAGE, aslant, 0, 1, 1, [at(-3, "1/2") + ([at(0, "1/3")],), at(2, "1/2") + ([],),
                                                    at(3, "1/2") + ([at(3, "2/3")],)])

    def test_somebody_between_hides(self):
        people = [self.HERE, self.THERE, self.BETWEEN]
        self.assert_ways(PASSAGE, people, 0, 1, 0, [])
        self.assert_ways(PASSAGE, people, 0, 1, 1, [])
        self.assert_ways(PASSAGE, people, 0, 2, 0, [at(1, 0) + ([],)])

    def test_somebody_just_beside_does_not(self):
        people = [self.HERE, self.THERE, at("3/2", "501/1000")]
        self.assert_ways(PASSAGE, people, 0, 1, 0, [at(2, 0) + ([],)])

    def test_a_screen_of_plain_faces_hides(self):
        hall = (3, 1, PASSAGE[2] + (("up", 1, 0, "p", "p"),))
        self.assert_ways(hall, [self.HERE, self.THERE], 0, 1, 1, [])

    def test_a_screen_of_mirrors_shows_oneself(self):
        hall = (3, 1, PASSAGE[2] + (("up", 2, 0, "m", "p"),))
        self.assert_ways(hall, [self.HERE], 0, 0, 1, [at(-1, 0) + ([at(0, "1/2")],), at(3, 0) + ([at(2, "1/2")],)])
        people = [self.HERE, self.THERE]
        self.assert_ways(hall, people, 0, 0, 1, ways(hall, [self.HERE], 0, 0, 1))
        # From the other one's side the screen is plain.
        self.assert_ways(hall, people, 1, 1, 1, [at(1, 0) + ([at(3, "1/2")],)])

    def test_nearly_as_far_as_ways_may_lead(self):
        # One reflection, and nearly twice the width.
        people = [at("2999/1000", "1/4"), at("2999/1000", "3/4")]
        self.assert_ways(PASSAGE, people, 0, 1, 1, [at("-2999/500", "1/2") + ([at(0, "1/2")],), at(0, "1/2") + ([],),
                                                    at("1/500", "1/2") + ([at(3, "1/2")],)])


class ManyWaysTest(WaysCase):
    SIZES = [((1, 1), 4), ((2, 1), 3), ((1, 3), 3), ((2, 2), 3), ((3, 2), 2), ((3, 3), 2), ((4, 4), 1), ((8, 8), 1)]

    def assert_some(self, seed, share, mirrors, bottoms):
        chance = random.Random(seed)
        told_in_all = 0
        for (width, height), most in self.SIZES:
            for turn in range(4):
                hall = random_hall(chance, width, height, share, mirrors)
                people = random_people(chance, width, height, 4, bottoms)
                other = chance.randrange(len(people))
                for fewer in range(most + 1):
                    expected = ways_by_hand(hall, people, 0, other, fewer)
                    found = self.assert_ways(hall, people, 0, other, fewer, expected)
                    told_in_all += len(found)
                    for dx, dy, turns in found:
                        self.assertEqual(walk(hall, people, people[0], (dx, dy), fewer), ("end", people[other], turns))
        return told_in_all

    def test_boxes(self):
        self.assertGreater(self.assert_some(141, 0, 1, [3, 5, 7]), 400)

    def test_open_edges_and_some_screens_within(self):
        self.assertGreater(self.assert_some(142, 0.2, 0.9, [3, 5, 7]), 200)

    def test_many_screens_within(self):
        self.assertGreater(self.assert_some(143, 0.6, 0.9, [3, 4, 7]), 100)

    def test_places_where_much_is_hidden(self):
        self.assertGreater(self.assert_some(144, 0.1, 1, [2, 4]), 100)

    def test_rising_by_dx_then_by_dy(self):
        chance = random.Random(145)
        for bottoms in ([2, 4], [3, 5, 7], [997, 1000]):
            people = random_people(chance, 2, 2, 3, bottoms)
            found = ways(random_hall(chance, 2, 2, 0, 1), people, 0, 1, 5)
            order = [tuple(values(way[:2])) for way in found]
            self.assertEqual(order, sorted(set(order)))
            self.assertGreater(len(order), 10)


class ImagesTest(unittest.TestCase):
    def test_least_reach(self):
        # Each X is an image's at -1/3 and 1/3 from an even number, each Y at -1/4 and 1/4.
        found = images(BOX, [ONE], 0, 0, 1, 1)
        self.assertEqual(found, [at("-2/3", "-1/2") + ("corner", at(0, 0)), at("-2/3", 0) + ("seen", ONE),
                                 at(0, "-1/2") + ("seen", ONE)])

    def test_words_and_points(self):
        people = [at("1/2", "1/2"), at("5/2", "1/2"), at("3/2", "1/2")]
        told_by = {step[:2]: step[2:] for step in images(PASSAGE, people, 0, 1, 1, 6)}
        self.assertEqual(told_by[at(2, 0)], ("person", people[2]))
        self.assertEqual(told_by[at(-1, 0)], ("end", at("1/2", "1/2")))
        self.assertEqual(told_by[at(0, 1)], ("plain", at("1/2", 1)))
        self.assertEqual(told_by[at(-1, 1)], ("corner", at(0, 1)))
        self.assertEqual(told_by[at(-3, 0)], ("person", people[0]))
        told_by = {step[:2]: step[2:] for step in images(PASSAGE, people[:2], 0, 1, 0, 6)}
        self.assertEqual(told_by[at(2, 0)], ("seen", people[1]))
        self.assertEqual(told_by[at(-3, 0)], ("many", at(0, "1/2")))
        self.assertEqual(told_by[at(3, 0)], ("person", people[1]))

    def test_an_image_may_be_where_one_stands_and_is_left_out(self):
        people = [at("1/2", "1/2"), at("5/2", "1/2")]
        steps = [step[:2] for step in images(PASSAGE, people, 0, 1, 1, 4)]
        self.assertNotIn(at(0, 0), steps)
        self.assertEqual([step for step in steps if step[1] == (0, 1)],
                         [at(dx, 0) for dx in (-4, -3, -2, -1, 1, 2, 3, 4)])

    def test_the_reach_itself_is_within(self):
        people = [at("1/2", "1/2"), at("3/2", "1/2")]
        for reach in (1, 2, 3, 20):
            parts = [Fraction(*part) for step in images(PASSAGE, people, 0, 1, 0, reach) for part in step[:2]]
            self.assertEqual((min(parts), max(parts)), (-reach, reach))

    def test_all_images_and_no_others_by_hand(self):
        chance = random.Random(16)
        words = {}
        for turn in range(30):
            hall = random_hall(chance, chance.randrange(1, 5), chance.randrange(1, 5), chance.choice([0, 0.2]), 0.9)
            people = random_people(chance, hall[0], hall[1], 4, chance.choice([[2], [2, 4], [3, 5, 7]]))
            other = chance.randrange(len(people))
            most, reach = chance.randrange(5), chance.randrange(1, 6)
            found = images(hall, people, 0, other, most, reach)
            self.assertEqual(found, images_by_hand(hall, people, 0, other, most, reach))
            for image in found:
                words[image[2]] = words.get(image[2], 0) + 1
        self.assertEqual(sorted(words), ["corner", "end", "many", "person", "plain", "seen"])

    def test_greatest_reach(self):
        people = [at("1/1000", "7/997"), at("7993/1000", "3/8")]
        hall = random_hall(random.Random(17), 8, 8, 0.05, 0.95)
        found = images(hall, people, 0, 1, 1000, 20)
        self.assertEqual(len(found), 1600)
        self.assertEqual(found, images_by_hand(hall, people, 0, 1, 1000, 20))

    def test_each_step_of_a_way_is_one_to_an_image(self):
        chance = random.Random(15)
        for turn in range(20):
            hall = random_hall(chance, 3, 2, 0.2, 0.9)
            people = random_people(chance, 3, 2, 3, [3, 4, 5])
            seen = [image[:2] for image in images(hall, people, 0, -1, 2, 9) if image[2] == "seen"]
            self.assertEqual(seen, [way[:2] for way in ways(hall, people, 0, -1, 2)])


class BelongingTest(unittest.TestCase):
    def test_what_is_handed_in_stays(self):
        people = [ONE, OTHER]
        ways(BOX, people, 0, 1, 2)
        images(BOX, people, 0, 1, 2, 3)
        self.assertEqual(people, [ONE, OTHER])

    def test_lists_told_belong_to_the_asker(self):
        for ask in (lambda: ways(BOX, [ONE, OTHER], 0, 1, 2), lambda: images(BOX, [ONE, OTHER], 0, 1, 2, 3)):
            first, second, kept = ask(), ask(), ask()
            self.assertIs(type(first), list)
            first.clear()
            self.assertEqual(second, kept)
            self.assertEqual(ask(), kept)

    def test_turns_told_belong_to_the_asker(self):
        first, second, kept = [ways(BOX, [ONE, OTHER], 0, 1, 2) for turn in range(3)]
        first[0][2].append("more")
        self.assertEqual(first[1:], kept[1:])
        self.assertEqual(second, kept)
        self.assertEqual(ways(BOX, [ONE, OTHER], 0, 1, 2), kept)


if __name__ == "__main__":
    unittest.main()
