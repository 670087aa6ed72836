"""Point 11: the people in a hall."""

import unittest

from selfsight.errors import NoPerson
from selfsight.halls import people_in

HALL = (3, 2, (("up", 1, 0, "m", "m"), ("flat", 2, 1, "p", "m")))
EIGHT = [((1, 2), (1, 2)), ((1, 2), (3, 2)), ((5, 2), (1, 2)), ((5, 2), (3, 2)),
         ((1, 1000), (1, 1000)), ((2999, 1000), (1999, 1000)), ((1, 1000), (1999, 1000)), ((3, 2), (1, 2))]


class PeopleTest(unittest.TestCase):
    def assert_refused(self, hall, people, number):
        with self.assertRaises(NoPerson) as taken:
            people_in(hall, people)
        self.assertEqual(taken.exception.number, number)
        self.assertIs(type(taken.exception.number), int)

    def assert_person_refused(self, person):
        self.assert_refused(HALL, [person], 0)
        self.assert_refused(HALL, EIGHT[:3] + [person] + EIGHT[4:], 3)
        self.assert_refused(HALL, EIGHT[:7] + [person], 7)

    def test_none_one_and_eight(self):
        for people in ([], EIGHT[:1], EIGHT):
            self.assertEqual(people_in(HALL, people), people)

    def test_order_is_kept(self):
        self.assertEqual(people_in(HALL, EIGHT[::-1]), EIGHT[::-1])

    def test_the_least_and_the_greatest_hall(self):
        self.assertEqual(people_in((1, 1, ()), [((1, 2), (999, 1000))]), [((1, 2), (999, 1000))])
        self.assertEqual(people_in((8, 8, ()), [((7999, 1000), (15, 2))]), [((7999, 1000), (15, 2))])

    def test_whole_numbers(self):
        for whole in ((1, 1), (2, 1)):
            self.assert_person_refused((whole, (1, 2)))
        self.assert_person_refused(((1, 2), (1, 1)))
        self.assert_person_refused(((2, 1), (1, 1)))

    def test_on_the_rim(self):
        for person in (((0, 1), (1, 2)), ((3, 1), (1, 2)), ((1, 2), (0, 1)), ((1, 2), (2, 1)),
                       ((0, 1), (0, 1)), ((3, 1), (2, 1))):
            self.assert_person_refused(person)

    def test_beyond_the_rim(self):
        for x in ((-1, 2), (-1, 1000), (3001, 1000), (7, 2), (17, 2)):
            self.assert_person_refused((x, (1, 3)))
        for y in ((-1, 2), (-1, 1000), (2001, 1000), (5, 2), (17, 2)):
            self.assert_person_refused(((1, 3), y))
        self.assert_person_refused(((-1, 2), (-1, 2)))

    def test_width_bounds_x_and_height_bounds_y(self):
        self.assertEqual(people_in((3, 1, ()), [((5, 2), (1, 2))]), [((5, 2), (1, 2))])
        self.assert_refused((1, 3, ()), [((5, 2), (1, 2))], 0)
        self.assertEqual(people_in((1, 3, ()), [((1, 2), (5, 2))]), [((1, 2), (5, 2))])
        self.assert_refused((3, 1, ()), [((1, 2), (5, 2))], 0)

    def test_where_one_ahead_stands(self):
        self.assert_refused(HALL, [EIGHT[0], EIGHT[0]], 1)
        self.assert_refused(HALL, [EIGHT[0], EIGHT[1], EIGHT[2], EIGHT[0]], 3)
        self.assert_refused(HALL, EIGHT[:7] + [EIGHT[6]], 7)

    def test_one_part_alike_is_no_fault(self):
        people = [((1, 2), (1, 3)), ((1, 2), (2, 3)), ((1, 3), (1, 2)), ((2, 3), (1, 2)), ((1, 3), (1, 3))]
        self.assertEqual(people_in(HALL, people), people)

    def test_the_first_at_fault_decides(self):
        whole = ((1, 1), (1, 2))
        beyond = ((7, 2), (1, 2))
        self.assert_refused(HALL, [EIGHT[0], EIGHT[0], whole, beyond], 1)
        self.assert_refused(HALL, [EIGHT[0], whole, EIGHT[0], beyond], 1)
        self.assert_refused(HALL, [EIGHT[0], EIGHT[1], beyond, whole, EIGHT[0]], 2)
        self.assert_refused(HALL, [whole, whole], 0)

    def test_what_is_told_is_a_list_of_its_own(self):
        for people in ([], EIGHT[:1], list(EIGHT)):
            kept = list(people)
            told = people_in(HALL, people)
            self.assertIs(type(told), list)
            self.assertIsNot(told, people)
            told.append(((1, 7), (1, 7)))
            told.reverse()
            self.assertEqual(people, kept)
            self.assertEqual(people_in(HALL, people), kept)

    def test_what_is_told_stays_when_what_was_handed_in_changes(self):
        people = list(EIGHT)
        told = people_in(HALL, people)
        people.clear()
        self.assertEqual(told, EIGHT)

    def test_what_is_refused_stays(self):
        people = [EIGHT[0], EIGHT[0]]
        self.assert_refused(HALL, people, 1)
        self.assertEqual(people, [EIGHT[0], EIGHT[0]])


if __name__ == "__main__":
    unittest.main()
