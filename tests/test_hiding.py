"""Points 21 and 22: the fewest hiders that hide one person from another, and the paper why fewer do not."""

import random
import unittest
from fractions import Fraction
from itertools import combinations

from byhand import (at, comes_to_edge, edges_of, goes_through, is_on_rim, path_of, random_hall, random_people,
                    random_person, told, values)
from selfsight.boxes import box
from selfsight.errors import NoHiding
from selfsight.halls import checked
from selfsight.hiding import least_hiding, middles, paper
from selfsight.ways import ways


def stand(x, y):
    return ("stand",) + at(x, y)


def screen(kind, x, y):
    return ("screen", kind, x, y)


def lies_on(hider, path):
    if hider[0] == "stand":
        return goes_through(path, values(hider[1:]))
    return comes_to_edge(path, *hider[1:])


def hiders_by_way(hall, people, one, other, most, hiders):
    """For the step of each way, in order, the numbers of the hiders on it, told by the geometry of its bends."""
    found = {}
    for way in ways(hall, people, one, other, most):
        path = path_of(people[one], way)
        found[way[:2]] = [number for number, hider in enumerate(hiders) if lies_on(hider, path)]
    return found


def hides(numbers, on_ways):
    return all(set(numbers) & set(lying) for lying in on_ways.values())


def least_by_hand(on_ways, count):
    return min(size for size in range(count + 1)
               if any(hides(numbers, on_ways) for numbers in combinations(range(count), size)))


def hall_with(hall, hiders):
    screens = [hider[1:] + ("p", "p") for hider in hiders if hider[0] == "screen"]
    return checked((hall[0], hall[1], hall[2] + tuple(screens)))


def people_with(people, hiders):
    return people + [hider[1:] for hider in hiders if hider[0] == "stand"]


def without_plain_rims(hall):
    """The same hall, but that less of it is told."""
    sides = [side for side in hall[2] if side[3:] != ("p", "p") or not is_on_rim(*hall[:2], *side[:3])]
    return hall[:2] + (tuple(sides),)


def free_edges(hall):
    taken = [side[:3] for side in hall[2]]
    return [edge for edge in edges_of(*hall[:2]) if edge not in taken and not is_on_rim(*hall[:2], *edge)]


def spots_on(path):
    """Points on the path at which people may stand."""
    found = []
    for near, far in zip(path, path[1:]):
        for share in (Fraction(1, 4), Fraction(1, 2), Fraction(2, 3)):
            spot = [one + share * (other - one) for one, other in zip(near, far)]
            if all(part.denominator != 1 for part in spot):
                found.append(told(spot))
    return found


def random_hiders(chance, hall, people, paths, bottoms):
    """Such as lie on the paths, where there are any, and some others; at most eight."""
    useful = [("stand",) + spot for path in paths for spot in spots_on(path)]
    useful += [("screen",) + edge for edge in free_edges(hall)] * 3
    idle = [("stand",) + random_person(chance, *hall[:2], bottoms) for turn in range(2)]
    chance.shuffle(useful)
    drawn = []
    for path in paths:
        if not any(lies_on(hider, path) for hider in drawn):
            drawn += [hider for hider in useful if lies_on(hider, path)][:chance.randrange(1, 4)]
    drawn = [hider for hider in dict.fromkeys(drawn + idle) if hider[1:] not in people][:chance.choice([3, 6, 8, 8])]
    chance.shuffle(drawn)
    return drawn


class Cases:
    """Random calls, with the hiders on each way: those where some set hides, and those where none does."""

    def __init__(self, seed):
        chance = random.Random(seed)
        self.hiding = []
        self.refused = []
        for turn in range(250):
            width, height = chance.choice([(1, 1), (2, 1), (1, 3), (2, 2), (3, 2), (2, 4), (3, 3)])
            hall = random_hall(chance, width, height, chance.choice([0, 0.2, 0.5]), chance.choice([0.3, 0.6, 1]))
            hall = without_plain_rims(hall) if chance.random() < 0.5 else hall
            people = random_people(chance, width, height, chance.randrange(1, 4), [2, 3, 4, 5])
            most = chance.randrange(0, 4)
            other = chance.randrange(len(people))
            paths = [path_of(people[0], way) for way in ways(hall, people, 0, other, most)]
            call = (hall, people, 0, other, most, random_hiders(chance, hall, people, paths, [2, 4]))
            on_ways = hiders_by_way(*call)
            (self.hiding if all(on_ways.values()) else self.refused).append((call, on_ways))


CASES = Cases(21)


class LeastHidingTest(unittest.TestCase):
    # Plain sides all round, and two people side by side in the first square.
    PLAIN = (2, 2, ())
    ASIDE = [at("1/4", "1/2"), at("3/4", "1/2")]

    def test_a_stand_between(self):
        found = least_hiding(self.PLAIN, self.ASIDE, 0, 1, 0, [stand("3/2", "1/2"), stand("1/2", "1/2")])
        self.assertEqual(found, [1])

    def test_no_way_at_all(self):
        # Nobody sees oneself without a mirror; so none need hide.
        self.assertEqual(least_hiding(self.PLAIN, self.ASIDE, 0, 0, 3, []), [])
        self.assertEqual(least_hiding(self.PLAIN, self.ASIDE, 0, 0, 3, [stand("1/2", "1/2")]), [])
        somebody = self.ASIDE + [at("1/2", "1/2")]
        self.assertEqual(least_hiding(self.PLAIN, somebody, 0, 1, 3, [stand("1/3", "1/2")]), [])

    def test_none_lies_on_the_way(self):
        for hiders in ([], [stand("3/2", "3/2")], [screen("up", 1, 1), screen("flat", 1, 1)]):
            with self.assertRaises(NoHiding) as caught:
                least_hiding(self.PLAIN, self.ASIDE, 0, 1, 0, hiders)
            self.assertEqual((caught.exception.dx, caught.exception.dy), at("1/2", 0))

    def test_the_first_way_on_which_none_lies(self):
        # Mirrors below and above: the ways of one reflection go by (0, -1), straight, and (0, 1) upward.
        hall = (1, 1, (("flat", 0, 0, "p", "m"), ("flat", 0, 1, "m", "p")))
        people = [at("1/4", "1/2"), at("3/4", "1/2")]
        self.assertEqual([way[:2] for way in ways(hall, people, 0, 1, 1)], [at("1/2", -1), at("1/2", 0), at("1/2", 1)])
        below, straight, above = stand("3/8", "1/4"), stand("1/2", "1/2"), stand("3/8", "3/4")
        for hiders, dy in [([], -1), ([straight], -1), ([above], -1), ([above, straight], -1), ([below], 0),
                           ([above, below], 0), ([straight, below], 1)]:
            with self.assertRaises(NoHiding) as caught:
                least_hiding(hall, people, 0, 1, 1, hiders)
            self.assertEqual((caught.exception.dx, caught.exception.dy), at("1/2", dy), hiders)
        self.assertEqual(least_hiding(hall, people, 0, 1, 1, [above, stand("1/5", "1/7"), straight, below]), [0, 2, 3])

    def test_one_stand_on_several_ways(self):
        # Upward and downward one sees oneself in the mirrors above and below, in either way twice through a stand.
        hall = (1, 1, (("flat", 0, 0, "p", "m"), ("flat", 0, 1, "m", "p"), ("up", 0, 0, "p", "m")))
        people = [at("1/2", "1/2")]
        hiders = [stand("1/2", "1/4"), stand("1/4", "1/2"), stand("1/2", "3/4"), stand("1/3", "1/2")]
        found = least_hiding(hall, people, 0, 0, 1, hiders)
        self.assertIn(found, ([0, 1, 2], [0, 2, 3]))

    def test_the_hider_on_the_most_ways_need_not_be_taken(self):
        hall = (3, 3, (("flat", 0, 3, "m", "p"), ("up", 0, 1, "p", "m"), ("up", 0, 2, "p", "m"),
                       ("up", 3, 0, "m", "p"), ("up", 3, 1, "m", "p")))
        people = [at("3/2", "1/2"), at("5/3", "5/4")]
        hiders = [stand("10/9", "175/148"), stand("19/9", "77/68"), stand("281/408", "41/16"), screen("flat", 1, 2),
                  screen("flat", 0, 2), screen("up", 2, 1), screen("flat", 2, 1), screen("flat", 1, 1)]
        on_ways = hiders_by_way(hall, people, 0, 1, 3, hiders)
        # Hider 4 lies on two ways, as 6 and 7 do, and as many as any.
        self.assertEqual(list(on_ways.values()), [[2, 3, 4, 7], [7], [1, 5, 6], [0], [4, 6]])
        self.assertEqual(least_hiding(hall, people, 0, 1, 3, hiders), [0, 6, 7])

    def test_a_screen_that_is_crossed(self):
        people = [at("1/2", "1/2"), at("3/2", "1/2")]
        self.assertEqual(least_hiding(self.PLAIN, people, 0, 1, 0, [screen("up", 1, 0)]), [0])
        self.assertEqual(least_hiding(self.PLAIN, people, 0, 1, 0, [screen("flat", 0, 1), screen("up", 1, 0)]), [1])

    def test_a_screen_that_is_met_at_its_end(self):
        # The way leads through (1, 1), at which all four edges within end.
        people = [at("1/2", "1/2"), at("3/2", "3/2")]
        for edge in [("up", 1, 0), ("up", 1, 1), ("flat", 0, 1), ("flat", 1, 1)]:
            self.assertEqual(least_hiding(self.PLAIN, people, 0, 1, 0, [screen(*edge)]), [0])
        people = [at("1/2", "1/2"), at("3/2", "4/3")]
        for edge, lies in [(("up", 1, 0), True), (("up", 1, 1), False), (("flat", 0, 1), False),
                           (("flat", 1, 1), True)]:
            if lies:
                self.assertEqual(least_hiding(self.PLAIN, people, 0, 1, 0, [screen(*edge)]), [0])
            else:
                self.assertRaises(NoHiding, least_hiding, self.PLAIN, people, 0, 1, 0, [screen(*edge)])

    def test_a_screen_behind_the_end(self):
        people = [at("1/2", "1/2"), at("3/4", "1/2")]
        self.assertRaises(NoHiding, least_hiding, self.PLAIN, people, 0, 1, 0, [screen("up", 1, 0)])

    def test_a_stand_behind_the_end_and_ahead_of_the_begin(self):
        people = [at("1/2", "1/2"), at("3/4", "1/2")]
        for hider in [stand("3/2", "1/2"), stand("1/4", "1/2")]:
            self.assertRaises(NoHiding, least_hiding, self.PLAIN, people, 0, 1, 0, [hider])

    def test_a_stand_behind_a_reflection(self):
        hall = (2, 1, (("up", 2, 0, "m", "p"),))
        people = [at("1/2", "1/2"), at("3/2", "1/2")]
        # Past the other one's place nobody sees further: the way of one reflection is none.
        self.assertEqual(least_hiding(hall, people, 0, 1, 1, [stand("4/3", "1/2")]), [0])
        people = [at("1/2", "1/4"), at("1/2", "3/4")]
        self.assertEqual([way[0:2] for way in ways(hall, people, 0, 1, 1)], [at(0, "1/2"), at(3, "1/2")])
        self.assertEqual(least_hiding(hall, people, 0, 1, 1, [stand("5/4", "5/8"), stand("1/2", "1/3")]), [0, 1])
        self.assertEqual(least_hiding(hall, people, 0, 1, 1, [screen("up", 1, 0), stand("1/2", "1/3")]), [0, 1])

    def test_mixed_hiders_in_any_order(self):
        people = [at("1/2", "1/2"), at("3/2", "1/2")]
        hiders = [screen("up", 1, 1), stand("1/2", "3/2"), stand("5/4", "1/2")]
        self.assertEqual(least_hiding(self.PLAIN, people, 0, 1, 2, hiders), [2])

    def test_told_sets_hide_and_none_is_shorter(self):
        sizes = set()
        for call, on_ways in CASES.hiding:
            found = least_hiding(*call)
            self.assertIs(type(found), list)
            self.assertEqual(found, sorted(set(found)))
            self.assertTrue(hides(found, on_ways), call)
            self.assertEqual(len(found), least_by_hand(on_ways, len(call[5])), call)
            sizes.add(len(found))
        self.assertTrue(set(range(5)).issubset(sizes), sizes)

    def test_refused_with_the_first_way(self):
        steps = set()
        for call, on_ways in CASES.refused:
            with self.assertRaises(NoHiding) as caught:
                least_hiding(*call)
            expected = [step for step in on_ways if not on_ways[step]]
            self.assertEqual((caught.exception.dx, caught.exception.dy), expected[0])
            steps.add((len(expected) > 1, list(on_ways).index(expected[0]) > 0))
        self.assertIn((True, True), steps)
        self.assertGreater(len(CASES.refused), 30)

    def test_where_they_stand_no_way_is_left_and_none_is_new(self):
        for call, on_ways in CASES.hiding + CASES.refused:
            hall, people, one, other, most, hiders = call
            left = ways(hall_with(hall, hiders), people_with(people, hiders), one, other, most)
            self.assertEqual([way[:2] for way in left], [step for step in on_ways if not on_ways[step]])
        for call, on_ways in CASES.hiding:
            hall, people, one, other, most, hiders = call
            least = [hiders[number] for number in least_hiding(*call)]
            self.assertEqual(ways(hall_with(hall, least), people_with(people, least), one, other, most), [])

    def test_the_middles_hide_in_a_box(self):
        people = [at("333/1000", "113/997"), at("4/7", "4/9")]
        hiders = [("stand",) + spot for spot in middles(1, 1, people[0], people[1])]
        self.assertEqual(least_hiding(box(1, 1), people, 0, 1, 12, hiders), list(range(16)))

    def test_the_greatest(self):
        # Of 24 squares to either side the straight line through both is hidden by one, all else is left.
        people = [at("1/3", "1/4"), at("1/2", "2/5")]
        hiders = [("stand",) + spot for spot in middles(1, 1, people[0], people[1])][:8]
        on_ways = hiders_by_way(box(1, 1), people, 0, 1, 23, hiders)
        with self.assertRaises(NoHiding) as caught:
            least_hiding(box(1, 1), people, 0, 1, 23, hiders)
        self.assertEqual((caught.exception.dx, caught.exception.dy), [step for step in on_ways if not on_ways[step]][0])
        # A box of which the two upright rims are plain: all ways lead upward or downward, through seven squares or less.
        hall = (3, 1, tuple(side for side in box(3, 1)[2] if side[0] == "flat"))
        people = [at("1/2", "1/3"), at("5/2", "1/4")]
        screens = [screen("up", 1, 0), screen("up", 2, 0)] + [stand("3/2", f"1/{bottom}") for bottom in range(2, 8)]
        self.assertEqual(len(ways(hall, people, 0, 1, 7)), 15)
        self.assertIn(least_hiding(hall, people, 0, 1, 7, screens), ([0], [1]))


class PaperTest(unittest.TestCase):
    HALL = (1, 1, (("flat", 0, 0, "p", "m"), ("flat", 0, 1, "m", "p")))
    PEOPLE = [at("1/4", "1/2"), at("3/4", "1/2")]
    BELOW, STRAIGHT, ABOVE = stand("3/8", "1/4"), stand("1/2", "1/2"), stand("3/8", "3/4")

    def assert_paper(self, tree, many, on_ways, above):
        self.assertIs(type(tree), tuple)
        dx, dy, trees = tree
        self.assertIn((dx, dy), on_ways)
        lying = on_ways[(dx, dy)]
        self.assertFalse(set(lying) & set(above))
        self.assertIs(type(trees), list)
        if many == 0:
            self.assertEqual(trees, [])
            return
        self.assertEqual([pair[0] for pair in trees], lying)
        for pair in trees:
            self.assertIs(type(pair), tuple)
            number, below = pair
            self.assert_paper(below, many - 1, on_ways, above + [number])

    def test_none_where_nobody_need_hide(self):
        self.assertIsNone(paper((2, 2, ()), self.PEOPLE, 0, 0, 3, []))
        self.assertIsNone(paper((2, 2, ()), self.PEOPLE, 0, 0, 3, [self.STRAIGHT]))

    def test_a_way_alone_where_one_hides(self):
        self.assertEqual(paper(self.HALL, self.PEOPLE, 0, 1, 0, [self.STRAIGHT]), at("1/2", 0) + ([],))
        self.assertEqual(paper(self.HALL, self.PEOPLE, 0, 1, 0, [self.BELOW, self.STRAIGHT, stand("1/3", "1/2")]),
                         at("1/2", 0) + ([],))

    def test_a_tree_where_two_hide(self):
        # Above and straight only: the mirror below is left out.
        hall = (1, 1, self.HALL[2][1:])
        hiders = [self.ABOVE, self.STRAIGHT]
        straight, above = at("1/2", 0) + ([],), at("1/2", 1) + ([],)
        self.assertIn(paper(hall, self.PEOPLE, 0, 1, 1, hiders),
                      (at("1/2", 0) + ([(1, above)],), at("1/2", 1) + ([(0, straight)],)))

    def test_hiders_on_a_way_are_told_rising(self):
        hall = (1, 1, self.HALL[2][1:])
        hiders = [self.ABOVE, self.STRAIGHT, stand("5/8", "3/4"), stand("2/3", "1/2")]
        tree = paper(hall, self.PEOPLE, 0, 1, 1, hiders)
        self.assertIn([pair[0] for pair in tree[2]], ([0, 2], [1, 3]))
        self.assert_paper(tree, 1, hiders_by_way(hall, self.PEOPLE, 0, 1, 1, hiders), [])

    def test_refused_as_least_hiding(self):
        for call, on_ways in CASES.refused:
            with self.assertRaises(NoHiding) as caught:
                paper(*call)
            expected = [step for step in on_ways if not on_ways[step]]
            self.assertEqual((caught.exception.dx, caught.exception.dy), expected[0])

    def test_papers_show_it(self):
        depths = set()
        for call, on_ways in CASES.hiding:
            many = least_by_hand(on_ways, len(call[5])) - 1
            tree = paper(*call)
            if many < 0:
                self.assertIsNone(tree)
            else:
                self.assert_paper(tree, many, on_ways, [])
            depths.add(many)
        self.assertTrue(set(range(-1, 4)).issubset(depths), depths)

    def test_deep_papers(self):
        people = [at("333/1000", "113/997"), at("4/7", "4/9")]
        hiders = [("stand",) + spot for spot in middles(1, 1, people[0], people[1])]
        depths = set()
        for most in range(4):
            on_ways = hiders_by_way(box(1, 1), people, 0, 1, most, hiders)
            many = len(least_hiding(box(1, 1), people, 0, 1, most, hiders)) - 1
            self.assert_paper(paper(box(1, 1), people, 0, 1, most, hiders), many, on_ways, [])
            depths.add(many)
        self.assertIn(4, depths)


def lists_in(tree):
    found = [tree[2]]
    for number, below in tree[2]:
        found += lists_in(below)
    return found


class BelongingTest(unittest.TestCase):
    def setUp(self):
        self.people = [at("333/1000", "113/997"), at("4/7", "4/9")]
        self.hiders = [("stand",) + spot for spot in middles(1, 1, self.people[0], self.people[1])]
        self.call = (box(1, 1), self.people, 0, 1, 2, self.hiders)

    def test_what_is_handed_in_stays(self):
        people, hiders = list(self.people), list(self.hiders)
        least_hiding(*self.call)
        paper(*self.call)
        self.assertEqual((self.people, self.hiders), (people, hiders))

    def test_lists_told_belong_to_the_asker(self):
        first, kept = least_hiding(*self.call), least_hiding(*self.call)
        first.clear()
        self.assertEqual(least_hiding(*self.call), kept)

    def test_papers_told_belong_to_the_asker(self):
        first, kept = paper(*self.call), paper(*self.call)
        lists = lists_in(first)
        self.assertEqual(len({id(each) for each in lists}), len(lists))
        for each in lists:
            each.clear()
        self.assertEqual(paper(*self.call), kept)


if __name__ == "__main__":
    unittest.main()
