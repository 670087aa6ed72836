"""The texts of halls, as in `4x3 -2,1:mp |0,0:pm`."""

from selfsight.errors import NoText
from selfsight.halls import FACES, checked

FIGURES = "0123456789"
KINDS = {"|": "up", "-": "flat"}
SIGNS = {"up": "|", "flat": "-"}


def is_written_number(text):
    if len(text) not in (1, 2) or not all([sign in FIGURES for sign in text]):
        return False
    return text == "0" or text[0] != "0"


def sizes_in(word):
    # A word without its x leaves an empty height, which is no number.
    parts = word.partition("x")
    if not is_written_number(parts[0]) or not is_written_number(parts[2]):
        return None
    return (int(parts[0]), int(parts[2]))


def side_in(word):
    kind = KINDS.get(word[:1])
    place_and_signs = word[1:].partition(":")
    place = place_and_signs[0].partition(",")
    signs = place_and_signs[2]
    if kind is None or not is_written_number(place[0]) or not is_written_number(place[2]):
        return None
    if len(signs) != 2 or signs[0] not in FACES or signs[1] not in FACES:
        return None
    return (kind, int(place[0]), int(place[2]), signs[0], signs[1])


def read_hall(text):
    if not isinstance(text, str):
        raise NoText(None)
    words = text.split(" ")
    sizes = sizes_in(words[0])
    if sizes is None:
        raise NoText(0)
    sides = [side_in(word) for word in words[1:]]
    if None in sides:
        raise NoText(1 + sides.index(None))
    return checked((sizes[0], sizes[1], tuple(sides)))


def show_side(side):
    sign = SIGNS[side[0]]
    x = side[1]
    y = side[2]
    one = side[3]
    other = side[4]
    return f"{sign}{x},{y}:{one}{other}"


def show_hall(hall):
    width = hall[0]
    height = hall[1]
    return " ".join([f"{width}x{height}"] + [show_side(side) for side in sorted(hall[2])])
