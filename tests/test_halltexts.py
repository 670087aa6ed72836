"""Point 10: the texts of halls, read and shown."""

import random
import re
import unittest
from itertools import permutations

from byhand import random_hall
from selfsight.errors import NoHall, NoText
from selfsight.halls import checked
from selfsight.halltexts import read_hall, show_hall

NUMBER = r"(?:0|[1-9][0-9]?)"
SIZES = re.compile(rf"({NUMBER})x({NUMBER})\Z")
SIDE = re.compile(rf"([|-])({NUMBER}),({NUMBER}):([mp])([mp])\Z")
SIGNS = "0189x|-,:mp ~X+"


def first_bad_word(text):
    for place, word in enumerate(text.split(" ")):
        if not (SIZES if place == 0 else SIDE).match(word):
            return place
    return None


def hall_of(text):
    words = text.split(" ")
    sizes = SIZES.match(words[0])
    sides = [SIDE.match(word).groups() for word in words[1:]]
    return (int(sizes[1]), int(sizes[2]),
            tuple(({"|": "up", "-": "flat"}[kind], int(x), int(y), one, other) for kind, x, y, one, other in sides))


class TextCase(unittest.TestCase):
    def assert_no_text(self, text, word):
        with self.assertRaises(NoText) as taken:
            read_hall(text)
        self.assertEqual(taken.exception.word, word, text)
        self.assertIs(type(taken.exception.word), type(word), text)

    def assert_no_hall(self, text, side):
        with self.assertRaises(NoHall) as taken:
            read_hall(text)
        self.assertEqual(taken.exception.side, side, text)
        self.assertIs(type(taken.exception.side), type(side), text)

    def assert_word_refused(self, word):
        self.assert_no_text("4x3 " + word, 1)
        self.assert_no_text("4x3 -2,1:mp " + word + " |0,0:pm", 2)
        self.assert_no_text("4x3 -2,1:mp |0,0:pm " + word, 3)


class ShownTest(TextCase):
    SIDES = (("flat", 0, 0, "p", "m"), ("flat", 2, 1, "m", "p"), ("up", 0, 0, "p", "m"), ("up", 1, 2, "p", "p"))

    def test_as_the_document_writes_it(self):
        self.assertEqual(show_hall((4, 3, (("up", 0, 0, "p", "m"), ("flat", 2, 1, "m", "p")))), "4x3 -2,1:mp |0,0:pm")

    def test_no_sides(self):
        for width in range(1, 9):
            for height in range(1, 9):
                self.assertEqual(show_hall((width, height, ())), f"{width}x{height}")

    def test_sides_in_any_order_are_sorted(self):
        for order in permutations(self.SIDES):
            hall = (4, 3, order)
            self.assertEqual(show_hall(hall), "4x3 -0,0:pm -2,1:mp |0,0:pm |1,2:pp")
            self.assertEqual(hall, (4, 3, order))

    def test_sorted_by_x_then_y(self):
        sides = (("up", 2, 0, "m", "m"), ("up", 1, 2, "m", "m"), ("up", 1, 1, "m", "m"), ("flat", 3, 2, "m", "m"),
                 ("flat", 3, 1, "m", "m"))
        self.assertEqual(show_hall((5, 4, sides)), "5x4 -3,1:mm -3,2:mm |1,1:mm |1,2:mm |2,0:mm")

    def test_each_pair_of_faces(self):
        for one in "mp":
            for other in "mp":
                self.assertEqual(show_hall((2, 2, (("up", 1, 0, one, other),))), f"2x2 |1,0:{one}{other}")
                self.assertEqual(show_hall((2, 2, (("flat", 0, 1, one, other),))), f"2x2 -0,1:{one}{other}")


class ReadTest(TextCase):
    def test_as_the_document_writes_it(self):
        self.assertEqual(read_hall("4x3 -2,1:mp |0,0:pm"),
                         (4, 3, (("flat", 2, 1, "m", "p"), ("up", 0, 0, "p", "m"))))

    def test_sides_in_any_order(self):
        for order in permutations(["-0,0:pm", "-2,1:mp", "|0,0:pm", "|1,2:pp"]):
            self.assertEqual(read_hall(" ".join(("4x3",) + order)), (4, 3, ShownTest.SIDES))

    def test_what_was_shown_is_the_hall_checked(self):
        chance = random.Random(10)
        for width in range(1, 9):
            for height in range(1, 9):
                hall = random_hall(chance, width, height, 0.5, 0.5)
                self.assertEqual(read_hall(show_hall(hall)), checked(hall))
                self.assertEqual(show_hall(read_hall(show_hall(hall))), show_hall(hall))

    def test_the_greatest_hall(self):
        hall = random_hall(random.Random(1), 8, 8, 1, 0.5)
        self.assertEqual(len(hall[2]), 144)
        self.assertEqual(read_hall(show_hall(hall)), checked(hall))


class NoTextTest(TextCase):
    def test_what_is_no_text(self):
        for thing in (None, 4, 0, True, b"4x3", ["4x3"], ("4x3",), (4, 3, ()), {}):
            self.assert_no_text(thing, None)

    def test_empty_text(self):
        self.assert_no_text("", 0)

    def test_sizes(self):
        for word in ("4", "x", "4x", "x3", "4x3x2", "4xx3", "4X3", "4,3", "43", "4x-3", "-4x3", "+4x3", "04x3", "4x03",
                     "00x3", "4x00", "100x3", "4x100", "4x3,", "4x3\n", "\n4x3", "4\tx3", "ax3", "4xm", "~", "4_x3",
                     "4.0x3", "\u0664x3", "4x\u00b2", "|1,1:mm"):
            self.assert_no_text(word, 0)
            self.assert_no_text(word + " |1,1:mm", 0)

    def test_noughts_ahead(self):
        for word in ("|01,1:mm", "|1,01:mm", "|00,1:mm", "-1,00:mm", "-01,1:mm"):
            self.assert_word_refused(word)

    def test_three_figures(self):
        for word in ("|100,1:mm", "|1,100:mm", "-123,1:mm", "-1,123:mm"):
            self.assert_word_refused(word)

    def test_a_sign_is_missing(self):
        for word in ("|1,1:mm", "-2,0:pm"):
            for place in range(len(word)):
                self.assert_word_refused(word[:place] + word[place + 1:])

    def test_a_sign_too_many(self):
        for word in ("|1,1:mm", "-2,0:pm"):
            for place in range(len(word) + 1):
                for sign in "|-,:mpx~":
                    self.assert_word_refused(word[:place] + sign + word[place:])

    def test_another_sign(self):
        for word in ("/1,1:mm", "+1,1:mm", "|1.1:mm", "|1;1:mm", "|1,1;mm", "|1,1,mm", "|1,1:mx", "|1,1:xm", "|1,1:MM",
                     "|1,1:Pp", "|a,1:mm", "|1,a:mm", "|1,1:m:", "|1:1,mm", "|1,\u0661:mm", "4x3", "|-1,1:mm",
                     "|+1,1:mm"):
            self.assert_word_refused(word)

    def test_blanks(self):
        self.assert_no_text(" ", 0)
        self.assert_no_text(" 4x3", 0)
        self.assert_no_text("4x3 ", 1)
        self.assert_no_text("4x3  |1,1:mm", 1)
        self.assert_no_text("4x3 |1,1:mm ", 2)
        self.assert_no_text("4x3 |1,1:mm  -1,1:mm", 2)
        self.assert_no_text("4 x3", 0)
        self.assert_no_text("4x3 | 1,1:mm", 1)
        self.assert_no_text("4x3\t|1,1:mm", 0)
        self.assert_no_text("4x3 |1,1:mm\n-1,1:mm", 1)

    def test_the_first_such_word_decides(self):
        self.assert_no_text("4x3 |1,1:mm -1:mm |x", 2)
        self.assert_no_text("4x |1 |1", 0)

    def test_texts_come_ahead_of_halls(self):
        self.assert_no_text("9x0 |1", 1)
        self.assert_no_text("4x3 |50,50:mm |1,1:mm |1,1:mm |1,1:mq", 4)

    def test_all_texts_near_a_good_one(self):
        good = "4x3 -2,1:mp |0,0:pm"
        for place in range(len(good) + 1):
            nearby = [good[:place] + good[place + 1:]]
            for sign in SIGNS:
                nearby += [good[:place] + sign + good[place:], good[:place] + sign + good[place + 1:]]
            for text in nearby:
                self.assert_as_written(text)

    def assert_as_written(self, text):
        bad = first_bad_word(text)
        if bad is not None:
            self.assert_no_text(text, bad)
            return
        try:
            expected = checked(hall_of(text))
        except NoHall as refusal:
            self.assert_no_hall(text, refusal.side)
        else:
            self.assertEqual(read_hall(text), expected)


class NoHallTest(TextCase):
    def test_sizes(self):
        for text in ("0x3", "4x0", "9x3", "4x9", "10x3", "4x99", "0x0", "9x9 |50,50:mm"):
            self.assert_no_hall(text, None)

    def test_edges_beyond_the_floor(self):
        for word in ("|5,0:pp", "|0,3:pp", "-4,0:pp", "-0,4:pp", "|10,1:pp", "-1,99:pp"):
            self.assert_no_hall("4x3 " + word, 0)
            self.assert_no_hall("4x3 |1,1:mm " + word + " |1,1:mm", 1)

    def test_mirrors_that_look_out(self):
        for word in ("|0,1:mp", "|4,1:pm", "-1,0:mm", "-1,3:mm"):
            self.assert_no_hall("4x3 |1,1:mm |2,1:mm " + word, 2)

    def test_edges_told_twice(self):
        self.assert_no_hall("4x3 |1,1:mm -1,1:pp |1,1:mm", 2)
        self.assert_no_hall("4x3 |1,1:mm |1,1:pp", 1)


if __name__ == "__main__":
    unittest.main()
