"""Point 27: the desk, its rows and their answers."""

import random
import unittest

from byhand import at, random_hall, random_people, told, values
from selfsight.boxes import box
from selfsight.desk import Desk
from selfsight.errors import NoHall, NoHiding, NoName, NoPerson, NoRow, NoText, SightError
from selfsight.halls import checked
from selfsight.halltexts import show_hall
from selfsight.hiding import least_hiding
from selfsight.motions import mirrored, turned
from selfsight.walks import walk
from selfsight.ways import images, ways

ONE_SQUARE = "1x1 -0,0:pm -0,1:mp |0,0:pm |1,0:mp"
NAMES = ["a", "b", "zz", "someone", "abcdefgh", "m", "p", "ok"]


def written(value):
    return str(values((value, value))[0])


def pair(point):
    return written(point[0]) + "," + written(point[1])


def place_of(desk, name):
    """Where a person stands, heard from the desk itself: the end of a very short walk, less its step."""
    word, where, count = desk.say(f"walk {name} 1/999999999 0 0").split(" ")
    x, y = values(at(*where.split(",")))
    return at(x - values(at("1/999999999", 0))[0], y)


def desk_with(text, *people):
    desk = Desk()
    desk.say("hall " + text)
    for row in people:
        desk.say("person " + row)
    return desk


def state_of(desk, names=NAMES):
    """The hall, who is there, where, and in which order."""
    found = []
    for name in names:
        try:
            found.append((name, place_of(desk, name)))
        except NoName:
            pass
    # At a corner nobody may stand: the refusal tells who, by the place in their order.
    numbers = []
    for name, place in found:
        try:
            desk.say(f"person {name} 0 0")
        except NoPerson as refusal:
            numbers.append(refusal.number)
    return desk.say("show"), found, numbers


class DeskCase(unittest.TestCase):
    def assert_refused(self, desk, row, kind, **fields):
        before = state_of(desk)
        with self.assertRaises(SightError, msg=row) as caught:
            desk.say(row)
        self.assertIs(type(caught.exception), kind, row)
        for field, value in fields.items():
            self.assertEqual(getattr(caught.exception, field), value, row)
        self.assertEqual(state_of(desk), before, row)

    def assert_no_row(self, desk, *rows):
        for row in rows:
            self.assert_refused(desk, row, NoRow)


class HallRowsTest(DeskCase):
    def test_at_first(self):
        desk = Desk()
        self.assertEqual(desk.say("show"), ONE_SQUARE)
        self.assertEqual(state_of(desk), (ONE_SQUARE, [], []))

    def test_hall_is_read_and_shown_sorted(self):
        desk = Desk()
        self.assertEqual(desk.say("hall 4x3 |0,0:pm -2,1:mp"), "ok")
        self.assertEqual(desk.say("show"), "4x3 -2,1:mp |0,0:pm")
        self.assertEqual(desk.say("hall 2x1"), "ok")
        self.assertEqual(desk.say("show"), "2x1")

    def test_a_hall_sends_people_off(self):
        for row in ["hall 1x1", "box 1 1", "hall 8x8 |1,1:mm", "box 8 8"]:
            desk = desk_with("1x1", "a 1/2 1/2", "b 1/3 1/3")
            self.assertEqual(desk.say(row), "ok")
            self.assert_refused(desk, "gone a", NoName)
            self.assertEqual(desk.say("person b 1/2 1/2"), "ok")
            self.assert_refused(desk, "person a 0 0", NoPerson, number=1)

    def test_halls_that_are_none(self):
        desk = desk_with("2x2 |1,0:mp", "a 1/2 1/2")
        for text, word in [("", 0), (" 2x2", 0), ("2x2 ", 1), ("2x2  |1,0:mp", 1), ("2", 0), ("2x2 x", 1),
                           ("2x2 |1,0:mp |1,1", 2), ("2x2 |1,0:mp -01,1:mp", 2), ("100x2", 0), (" ", 0)]:
            self.assert_refused(desk, "hall " + text, NoText, word=word)
        for text, side in [("0x1", None), ("9x1", None), ("1x9", None), ("2x2 |1,0:mp |1,0:mp", 1),
                           ("2x2 |0,0:mp", 0), ("2x2 |1,0:mp -2,0:pp", 1), ("99x99 |99,99:mm", None)]:
            self.assert_refused(desk, "hall " + text, NoHall, side=side)

    def test_hall_without_a_text_is_no_row(self):
        self.assert_no_row(Desk(), "hall", "Hall 1x1", "halls 1x1", " hall 1x1")

    def test_box(self):
        desk = Desk()
        for width in range(1, 9):
            for height in range(1, 9):
                self.assertEqual(desk.say(f"box {width} {height}"), "ok")
                self.assertEqual(desk.say("show"), show_hall(box(width, height)))

    def test_boxes_that_are_none(self):
        desk = desk_with("2x2 |1,0:mp", "a 1/2 1/2")
        for sizes in ["0 1", "1 0", "9 1", "1 9", "0 0", "10 10", "999999999 1", "1 999999999", "999999999 999999999"]:
            self.assert_refused(desk, "box " + sizes, NoHall, side=None)

    def test_turn(self):
        desk = desk_with("3x2 |1,0:mp -0,0:pm", "a 1/3 1/4", "b 5/2 3/2")
        self.assertEqual(desk.say("turn"), "ok")
        self.assertEqual(desk.say("show"), "2x3 -1,1:mp |2,0:mp")
        self.assertEqual([place_of(desk, "a"), place_of(desk, "b")], [at("7/4", "1/3"), at("1/2", "5/2")])
        for turn in range(3):
            desk.say("turn")
        self.assertEqual(state_of(desk), ("3x2 -0,0:pm |1,0:mp", [("a", at("1/3", "1/4")), ("b", at("5/2", "3/2"))],
                                          [0, 1]))

    def test_mirror(self):
        desk = desk_with("3x2 |1,0:mp -0,0:pm", "b 5/2 3/2", "a 1/3 1/4")
        self.assertEqual(desk.say("mirror"), "ok")
        self.assertEqual(state_of(desk), ("3x2 -2,0:pm |2,0:pm", [("a", at("8/3", "1/4")), ("b", at("1/2", "3/2"))],
                                          [1, 0]))
        desk.say("mirror")
        self.assertEqual(state_of(desk), ("3x2 -0,0:pm |1,0:mp", [("a", at("1/3", "1/4")), ("b", at("5/2", "3/2"))],
                                          [1, 0]))

    def test_put(self):
        desk = desk_with("2x2", "a 1/2 1/2")
        self.assertEqual(desk.say("put |1,0:mp"), "ok")
        self.assertEqual(desk.say("put -0,1:pp"), "ok")
        self.assertEqual(desk.say("put |1,0:mm"), "ok")
        self.assertEqual(state_of(desk), ("2x2 -0,1:pp |1,0:mm", [("a", at("1/2", "1/2"))], [0]))
        for side in ["|0,0:pm", "|2,0:mp", "-0,0:pm", "-1,2:mp", "|0,0:mm", "|3,0:pp", "|1,2:pp", "-2,1:pp", "-1,99:mm"]:
            self.assert_refused(desk, "put " + side, NoHall, side=0)
        self.assert_no_row(desk, "put", "put ", "put |1,0", "put |1,0:", "put |1,0:m", "put |1,0:mx", "put |1,0:mpp",
                           "put 1,0:mp", "put |01,0:mp", "put |1,00:mp", "put |100,0:mp", "put |-1,0:mp", "put |1:mp",
                           "put /1,0:mp", "put |1,0:mp ", "put |1,0:mp |1,1:mp", "put  |1,0:mp", "put |1,0,0:mp",
                           "put |1/1,0:mp")

    def test_open(self):
        desk = desk_with("2x2 |1,0:mp -0,1:pp |0,0:pm", "a 1/2 1/2")
        self.assertEqual(desk.say("open |1,0"), "ok")
        self.assertEqual(state_of(desk), ("2x2 -0,1:pp |0,0:pm", [("a", at("1/2", "1/2"))], [0]))
        for edge in ["|1,0", "|0,0", "|2,0", "-0,0", "-1,1", "-0,2", "|3,0", "|1,2", "-2,1", "|999999999,0"]:
            self.assert_refused(desk, "open " + edge, NoHall, side=None)
        self.assertEqual(desk.say("open -0,1"), "ok")
        self.assertEqual(desk.say("show"), "2x2 |0,0:pm")
        desk = desk_with("2x2 |1,0:mp")
        self.assert_no_row(desk, "open", "open ", "open |1,0:mp", "open 1,0", "open |1", "open |", "open |,", "open |1,",
                           "open |01,0", "open |-1,0", "open |1/2,0", "open |1,0 ", "open |1,0 |1,1", "open /1,0",
                           "open |1234567890,0", "open |1,1234567890", "open  |1,0", "open |1,0,0", "open --1,0")


class PersonRowsTest(DeskCase):
    def test_person(self):
        desk = desk_with("3x2")
        self.assertEqual(desk.say("person a 1/2 1/3"), "ok")
        self.assertEqual(desk.say("person abcdefgh 5/2 3/2"), "ok")
        self.assertEqual(state_of(desk)[1:], ([("a", at("1/2", "1/3")), ("abcdefgh", at("5/2", "3/2"))], [0, 1]))

    def test_one_who_moves_keeps_the_place(self):
        desk = desk_with("3x2", "a 1/2 1/3", "b 5/2 3/2", "m 1/3 1/3")
        self.assertEqual(desk.say("person a 3/2 3/2"), "ok")
        self.assertEqual(state_of(desk)[1:], ([("a", at("3/2", "3/2")), ("b", at("5/2", "3/2")),
                                               ("m", at("1/3", "1/3"))], [0, 1, 2]))
        self.assert_refused(desk, "person a 0 0", NoPerson, number=0)

    def test_one_may_move_to_the_same_place(self):
        desk = desk_with("3x2", "a 1/2 1/3", "b 5/2 3/2")
        self.assertEqual(desk.say("person a 1/2 1/3"), "ok")
        self.assertEqual(desk.say("person b 5/2 3/2"), "ok")

    def test_one_may_move_to_where_one_stood(self):
        desk = desk_with("3x2", "a 1/2 1/3", "b 5/2 3/2")
        desk.say("person a 1/3 1/3")
        self.assertEqual(desk.say("person b 1/2 1/3"), "ok")
        desk.say("gone a")
        self.assertEqual(desk.say("person b 1/3 1/3"), "ok")

    def test_places_where_nobody_may_stand(self):
        desk = desk_with("3x2", "a 1/2 1/3", "b 5/2 3/2")
        for place in ["1 1/2", "1/2 1", "0 1/2", "1/2 0", "-1/2 1/2", "1/2 -1/2", "7/2 1/2", "1/2 5/2", "3 2",
                      "999999999 1/2", "-999999999/2 1/2"]:
            for name, number in [("a", 0), ("b", 1), ("m", 2)]:
                self.assert_refused(desk, f"person {name} {place}", NoPerson, number=number)

    def test_places_where_another_one_stands(self):
        desk = desk_with("3x2", "a 1/2 1/3", "b 5/2 3/2")
        self.assert_refused(desk, "person a 5/2 3/2", NoPerson, number=0)
        self.assert_refused(desk, "person b 1/2 1/3", NoPerson, number=1)
        self.assert_refused(desk, "person m 1/2 1/3", NoPerson, number=2)
        self.assert_refused(desk, "person m 5/2 3/2", NoPerson, number=2)

    def test_names_that_are_none(self):
        desk = desk_with("3x2", "a 1/2 1/3")
        for name in ["A", "", "abcdefghi", "a1", "1", "a-b", "a_b", "aB", "\xe4", "a\n", "\u0430", "a\tb", "a,b", "-"]:
            self.assert_refused(desk, f"person {name} 3/2 1/2", NoName)
            # The name goes ahead of the place.
            self.assert_refused(desk, f"person {name} 1/2 1/3", NoName)
            self.assert_refused(desk, f"gone {name}", NoName)
            self.assert_refused(desk, f"walk {name} 1 1 1", NoName)

    def test_all_letters(self):
        for name in ["abcdefgh", "ijklmnop", "qrstuvwx", "yz"]:
            desk = desk_with("1x1", f"{name} 1/2 1/2")
            self.assertEqual(place_of(desk, name), at("1/2", "1/2"))

    def test_gone(self):
        desk = desk_with("3x2", "a 1/2 1/3", "b 5/2 3/2", "m 1/3 1/3")
        self.assertEqual(desk.say("gone a"), "ok")
        self.assertEqual(state_of(desk)[1:], ([("b", at("5/2", "3/2")), ("m", at("1/3", "1/3"))], [0, 1]))
        self.assert_refused(desk, "gone a", NoName)
        self.assertEqual(desk.say("person a 1/2 1/3"), "ok")
        self.assertEqual(state_of(desk)[2], [2, 0, 1])

    def test_nobody(self):
        desk = desk_with("3x2", "a 1/2 1/3")
        for row in ["gone b", "gone aa", "walk b 1 1 1", "ways a b 1", "ways b a 1", "images a b 1 1", "images b a 1 1",
                    "hide a b 1 3/2,1/2", "hide b a 1 3/2,1/2", "ways b b 1"]:
            self.assert_refused(desk, row, NoName)


class WalkRowsTest(DeskCase):
    def test_each_word(self):
        desk = desk_with("2x1 |2,0:mp -0,1:mp", "a 1/2 1/2", "b 3/2 1/2")
        for row, answer in [("a 1/4 0 0", "end 3/4,1/2 0"), ("a 2 0 9", "person 3/2,1/2 0"), ("a -1 0 0", "plain 0,1/2 0"),
                            ("a 1/2 1/2 0", "corner 1,1 0"), ("b 1 0 0", "many 2,1/2 0"), ("b 1 1/4 1", "end 3/2,3/4 1"),
                            ("b 1 0 1", "end 3/2,1/2 1"), ("a -1/4 -1/3 0", "end 1/4,1/6 0"),
                            ("a 0 1 1", "end 1/2,1/2 1"), ("a 1/999 0 0", "end 1001/1998,1/2 0"),
                            # Back from the mirror one comes to one's own place first.
                            ("b 2 0 7", "person 3/2,1/2 1"), ("b 3/2 0 1", "person 3/2,1/2 1")]:
            self.assertEqual(desk.say("walk " + row), answer, row)

    def test_a_step_of_nought_is_no_row(self):
        desk = desk_with("1x1", "a 1/2 1/2")
        self.assert_no_row(desk, "walk a 0 0 1", "walk b 0 0 1", "walk  0 0 1")
        self.assertEqual(desk.say("walk a 0 1 1"), "plain 1/2,1 0")

    def test_as_walks_are_told(self):
        chance = random.Random(27)
        for turn in range(60):
            hall = random_hall(chance, chance.randrange(1, 5), chance.randrange(1, 5), 0.3, 0.7)
            people = random_people(chance, *hall[:2], 4, [2, 3, 4])
            desk = desk_with(show_hall(hall), *[f"{name} {written(x)} {written(y)}"
                                                for name, (x, y) in zip(NAMES, people)])
            step = told([values(at(f"{chance.randrange(-40, 40)}/{chance.randrange(1, 9)}", 0))[0],
                         values(at(f"{chance.randrange(1, 40)}/{chance.randrange(1, 9)}", 0))[0]])
            number = chance.randrange(len(people))
            word, where, turns = walk(hall, people, people[number], step, 6)
            self.assertEqual(desk.say(f"walk {NAMES[number]} {written(step[0])} {written(step[1])} 6"),
                             f"{word} {pair(where)} {len(turns)}")


class SightRowsTest(DeskCase):
    TEXT = "2x2 -0,0:pm |1,0:mp"

    def test_ways(self):
        desk = desk_with(self.TEXT, "a 1/2 1/2", "b 1/4 1/2")
        self.assertEqual(desk.say("ways a b 0"), "-1/4,0:0")
        self.assertEqual(desk.say("ways a b 1"), "-1/4,-1:1 -1/4,0:0")
        self.assertEqual(desk.say("ways b a 1"), "1/4,-1:1 1/4,0:0")
        self.assertEqual(desk.say("ways a a 1"), "0,-1:1 1,0:1")

    def test_no_ways(self):
        desk = desk_with("1x1", "a 1/2 1/2", "b 1/4 1/2")
        self.assertEqual(desk.say("ways a a 1"), "")
        self.assertEqual(desk.say("ways a b 1"), "-1/4,0:0")

    def test_images(self):
        desk = desk_with(self.TEXT, "a 1/2 1/2")
        self.assertEqual(desk.say("images a a 1 1"), "-1,-1=corner -1,0=plain -1,1=corner 0,-1=seen 0,1=end "
                                                     "1,-1=corner 1,0=seen 1,1=corner")
        desk = desk_with("1x1", "a 1/2 1/2", "b 1/4 1/2")
        self.assertEqual(desk.say("images a b 0 1"), "-3/4,-1=plain -3/4,0=person -3/4,1=plain -1/4,-1=plain "
                                                     "-1/4,0=seen -1/4,1=plain")

    def test_images_that_are_not_seen(self):
        desk = desk_with("8x1", "a 1/2 1/2", "b 3/2 1/2")
        self.assertEqual(desk.say("images b a 0 1"), "-1,-1=corner -1,0=seen -1,1=corner 0,-1=plain 0,1=plain "
                                                     "1,-1=corner 1,0=end 1,1=corner")

    def test_reach_below_one_is_no_row(self):
        desk = desk_with("1x1", "a 1/2 1/2")
        self.assert_no_row(desk, "images a a 1 0", "images b a 1 0", "images a a 1 -1", "images a a 1 1/2")
        self.assertEqual(desk.say("images a a 1 1").count("="), 8)

    def test_as_they_are_told(self):
        chance = random.Random(270)
        for turn in range(30):
            hall = random_hall(chance, chance.randrange(1, 4), chance.randrange(1, 4), 0.3, 0.7)
            people = random_people(chance, *hall[:2], 3, [2, 3, 4])
            desk = desk_with(show_hall(hall), *[f"{name} {written(x)} {written(y)}"
                                                for name, (x, y) in zip(NAMES, people)])
            one, other = chance.randrange(len(people)), chance.randrange(len(people))
            names = f"{NAMES[one]} {NAMES[other]}"
            self.assertEqual(desk.say(f"ways {names} 2"), " ".join(
                f"{pair(way[:2])}:{len(way[2])}" for way in ways(hall, people, one, other, 2)))
            self.assertEqual(desk.say(f"images {names} 2 3"), " ".join(
                f"{pair(image[:2])}={image[2]}" for image in images(hall, people, one, other, 2, 3)))


class HideRowsTest(DeskCase):
    def setUp(self):
        self.desk = desk_with("2x2 |1,1:pp -0,2:mp", "a 1/4 1/2", "b 3/4 1/2", "m 3/2 1/2")

    def test_stands_and_screens(self):
        self.assertEqual(self.desk.say("hide a b 0 1/2,1/2"), "0")
        self.assertEqual(self.desk.say("hide a b 0 1/2,3/2 1/3,1/2"), "1")
        self.assertEqual(self.desk.say("hide b m 0 |1,0"), "0")
        self.assertEqual(self.desk.say("hide b m 0 -0,1 -1,1 |1,0"), "2")
        self.assertEqual(self.desk.say("hide a b 1 -0,1 1/2,1/2"), "0 1")
        self.assertEqual(self.desk.say("hide a b 1 -1,1 1/2,1/2 1/5,1/5 -0,1"), "1 3")

    def test_nobody_to_hide(self):
        self.assertEqual(self.desk.say("hide a a 0 1/2,1/2"), "")
        self.assertEqual(self.desk.say("hide a m 0 1/2,1/2"), "")

    def test_no_hiding(self):
        self.assert_refused(self.desk, "hide a b 0 3/2,3/2", NoHiding, dx=(1, 2), dy=(0, 1))
        self.assert_refused(self.desk, "hide a b 1 1/2,1/2", NoHiding, dx=(1, 2), dy=(3, 1))
        self.assert_refused(self.desk, "hide a b 1 -0,1", NoHiding, dx=(1, 2), dy=(0, 1))
        self.assert_refused(self.desk, "hide a b 1 -1,1", NoHiding, dx=(1, 2), dy=(0, 1))

    def test_places_that_are_no_hiders(self):
        for place in ["1/4,1/2", "3/4,1/2", "3/2,1/2", "1,1/2", "1/2,1", "0,1/2", "1/2,0", "5/2,1/2", "1/2,5/2",
                      "-1/2,1/2", "1/2,-1/2", "-1/2,-1/2", "-1,-1", "1,1", "|1,1", "|0,0", "|2,0", "-0,0", "-0,2",
                      "|1,2", "-2,1", "|3,0", "-1,3", "-1,2", "|999999999,0", "999999999,1/2", "-1,1/2", "-1/2,1"]:
            # Behind the names, ahead of what hides.
            self.assert_refused(self.desk, f"hide a b 0 {place}", NoRow)
            self.assert_refused(self.desk, f"hide a b 0 1/2,1/2 {place}", NoRow)
            self.assert_refused(self.desk, f"hide a x 0 {place}", NoName)
            self.assert_refused(self.desk, f"hide x a 0 {place}", NoName)
            self.assert_refused(self.desk, f"hide A  0 {place}", NoName)

    def test_places_alike(self):
        for place in ["1/2,1/2", "|1,0", "-0,1", "3/2,3/2"]:
            self.assert_refused(self.desk, f"hide a b 0 {place} {place}", NoRow)
            self.assert_refused(self.desk, f"hide a b 0 {place} 1/3,1/3 {place}", NoRow)
            self.assert_refused(self.desk, f"hide a x 0 {place} {place}", NoName)

    def test_places_that_are_not_so_written(self):
        for place in ["", "1/2", "1/2,", ",1/2", ",", "|", "-", "|,", "|1", "|1,", "|,1", "|-1,0", "|1,-0", "|1/2,0",
                      "|1,1/2", "--1,0", "-1,2/4", "2/4,1/2", "1/2,2/4", "01/2,1/2", "-0,1/2", "-0,-1", "1/2,1/2,1/2",
                      "|1,0,0", "|01,0", "|1,00", "|1,0:mp", "+1/2,1/2", "/1,0", "1/2;1/2", "|1234567890,0",
                      "1/1234567890,1/2", "1234567890/7,1/2", "a,b", "1/2,1/2x", "1/0,1/2", "2/1,1/2", "0/2,1/2",
                      "1/-2,1/2"]:
            self.assert_refused(self.desk, f"hide a b 0 {place}", NoRow)
            # Ahead of the names.
            self.assert_refused(self.desk, f"hide x b 0 {place}", NoRow)
            self.assert_refused(self.desk, f"hide x b 0 1/2,1/2 {place}", NoRow)
            self.assert_refused(self.desk, f"hide x b 0 {place} 1/2,1/2", NoRow)

    def test_one_place_at_least(self):
        self.assert_no_row(self.desk, "hide", "hide a", "hide a b", "hide a b 0", "hide x y 0", "hide a b 1/2,1/2",
                           "hide a b 0 ", "hide a b 0 1/2,1/2 ", "hide a b 0  1/2,1/2", "hide a b -1 1/2,1/2")

    def test_a_minus_and_two_whole_ones_is_a_screen(self):
        desk = desk_with("3x3", "a 3/2 1/2", "b 3/2 5/2")
        self.assertEqual(desk.say("hide a b 0 -1,2"), "0")
        self.assertEqual(desk.say("hide a b 0 -0,2 -1,1"), "1")

    def test_eight_places(self):
        desk = desk_with("8x1", "a 1/2 1/2", "b 15/2 1/2")
        places = [f"{x},1/2" for x in ["1/3", "1/5", "3/4"]] + ["|3,0"] + [f"{x}/3,1/3" for x in (1, 2, 4, 5)]
        self.assertIn(desk.say("hide a b 0 " + " ".join(places)), ("2", "3"))
        self.assertEqual(desk.say("hide a b 0 " + " ".join(places[:2] + places[3:])), "2")

    def test_as_they_are_told(self):
        hall = checked((2, 2, (("flat", 0, 0, "p", "m"), ("flat", 1, 0, "p", "m"), ("up", 2, 0, "m", "p"))))
        people = [at("1/2", "1/2"), at("4/3", "2/3")]
        desk = desk_with(show_hall(hall), "a 1/2 1/2", "b 4/3 2/3")
        hiders = [("screen", "up", 1, 0), ("stand",) + at("7/4", "1/3"), ("screen", "flat", 0, 1)]
        expected = " ".join(str(number) for number in least_hiding(hall, people, 0, 1, 2, hiders))
        self.assertEqual(desk.say("hide a b 2 |1,0 7/4,1/3 -0,1"), expected)


class RefusedRowsTest(DeskCase):
    def setUp(self):
        self.desk = desk_with("2x2 |1,0:mp", "a 1/2 1/2", "b 3/2 1/2")

    def test_no_texts(self):
        self.assert_no_row(self.desk, None, 1, True, b"show", ["show"], ("show",), {"show": 1}, object(), 1.5)

    def test_other_first_words(self):
        self.assert_no_row(self.desk, "", " ", "  ", "Show", "SHOW", "shows", " show", "sho", "show\n", "\tshow", "people",
                           "cut 1", "join", "ring a 1 0", "paper a b 0 1/2,1/3", "say show", "opened |1,0", "ok")

    def test_other_numbers_of_words(self):
        self.assert_no_row(
            self.desk, "show ", "show 1", "box", "box 1", "box 1 1 1", "person", "person a", "person a 1/2",
            "person a 1/2 1/2 1/2", "person a 1/2 1/2 ", "gone", "gone a b", "gone a ", "walk", "walk a", "walk a 1",
            "walk a 1 1", "walk a 1 1 1 1", "ways", "ways a", "ways a b", "ways a b 1 1", "images a b 1",
            "images a b 1 1 1", "turn ", "turn 1", "turn a", "mirror ", "mirror a", "put", "open", "hide a b 1")

    def test_words_without_signs(self):
        self.assert_no_row(self.desk, "box  1", "box 1  1", "box 1 ", "box  ", "person a  1/2", "person a 1/2 ",
                           "walk a  1 1", "walk a 1  1", "walk a 1 1 ", "ways a b ", "images a b  1", "images a b 1 ")
        for row in ["gone ", "person  1/2 1/3", "walk  1 1 1", "ways  b 1", "ways a  1", "images  b 1 1",
                    "hide a  1 1/3,1/3", "hide  b 1 1/3,1/3"]:
            self.assert_refused(self.desk, row, NoName)

    def test_numbers_badly_written(self):
        for word in ["", "x", "01", "00", "-0", "+1", "1.5", "1/1", "0/1", "0/2", "2/4", "-2/4", "1/0", "0/0", "1/", "/2",
                     "1/-2", "--1", "-", "/", "1/2/3", "1/02", "1_0", "\u0661", "\xb2", "1e3", "0x1", "1234567890",
                     "-1234567890", "1/1234567890", "1234567891/2", "1234567890123456789012", "1\n", "- 1"]:
            self.assert_no_row(self.desk, f"person m {word} 1/2", f"person m 1/2 {word}", f"walk a {word} 1 1",
                               f"walk a 1 {word} 1", f"person A {word} 1/2", f"walk x {word} 1 1")

    def test_whole_ones_badly_written(self):
        for word in ["", "x", "01", "00", "-0", "-1", "+1", "1.5", "1/1", "1/2", "0/1", "-", "/", "1234567890", "1_0",
                     "\u0661", "1\n"]:
            self.assert_no_row(self.desk, f"box {word} 1", f"box 1 {word}", f"walk a 1 1 {word}", f"ways a b {word}",
                               f"images a b {word} 1", f"images a b 1 {word}", f"hide a b {word} 1/3,1/3",
                               f"ways x y {word}", f"walk x 1 1 {word}", f"images x y 1 {word}")

    def test_numbers_of_nine_figures(self):
        self.assertEqual(self.desk.say("walk a -1/123456789 0 999999999"), "end 123456787/246913578,1/2 0")
        self.assertEqual(self.desk.say("walk a 1/999999999 -100000001/999999999 100000000"),
                         "end 1000000001/1999999998,799999997/1999999998 0")
        self.assertEqual(self.desk.say("ways a b 0"), "")
        self.assert_refused(self.desk, "person a -123456789/987654322 1/2", NoPerson, number=0)

    def test_no_row_goes_ahead_of_no_name(self):
        self.assert_no_row(self.desk, "person A x 1/2", "walk x 1 1 x", "ways x y -1", "images x y 1 0", "walk x 0 0 1",
                           "hide x y 1 x", "gone x y", "hide x y 1")

    def test_no_name_goes_ahead_of_the_rows_own(self):
        self.assert_refused(self.desk, "person A 0 0", NoName)
        self.assert_refused(self.desk, "person abcdefghi 3/2 1/2", NoName)
        self.assert_refused(self.desk, "hide x b 0 3/2,3/2", NoName)
        self.assert_refused(self.desk, "hide a x 0 1/2,1/2", NoName)

    def test_nothing_is_kept_of_what_is_refused(self):
        self.assert_refused(self.desk, "person m 0 0", NoPerson, number=2)
        self.assert_refused(self.desk, "gone m", NoName)
        self.assertEqual(self.desk.say("person zz 1/2 3/2"), "ok")
        self.assert_refused(self.desk, "person zz 0 0", NoPerson, number=2)


class TwoDesksTest(DeskCase):
    def test_two_desks_have_nothing_of_each_other(self):
        one, other = Desk(), Desk()
        one.say("hall 2x2 |1,0:mp")
        one.say("person a 1/2 1/2")
        self.assertEqual(state_of(other), (ONE_SQUARE, [], []))
        other.say("person b 1/3 1/3")
        self.assertEqual(state_of(one), ("2x2 |1,0:mp", [("a", at("1/2", "1/2"))], [0]))
        one.say("put |1,1:mm")
        one.say("gone a")
        self.assertEqual(state_of(other), (ONE_SQUARE, [("b", at("1/3", "1/3"))], [0]))
        self.assertEqual(state_of(Desk()), (ONE_SQUARE, [], []))

    def test_answers_are_texts(self):
        desk = Desk()
        for row in ["show", "person a 1/2 1/2", "walk a 1 1 1", "ways a a 1", "images a a 1 1", "turn", "mirror", "gone a",
                    "box 2 2", "put |1,1:mm", "open |1,1", "hall 1x1"]:
            self.assertIs(type(desk.say(row)), str, row)

    def test_the_same_as_a_hall_that_is_turned_and_mirrored(self):
        chance = random.Random(271)
        hall = checked(random_hall(chance, 4, 3, 0.4, 0.5))
        desk = desk_with(show_hall(hall))
        for turn in range(20):
            row, move = chance.choice([("turn", turned), ("mirror", mirrored)])
            self.assertEqual(desk.say(row), "ok")
            hall = move(hall)
            self.assertEqual(desk.say("show"), show_hall(hall))


if __name__ == "__main__":
    unittest.main()
