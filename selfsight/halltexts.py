"""The texts of halls, as in `4x3 -2,1:mp |0,0:pm`."""

from selfsight.errors import NoText
from selfsight.halls import FACES, checked

FIGURES = "0123456789"
KINDS = {"|": "up", "-": "flat"}
SIGNS = {"up": "|", "flat": "-"}


def whole_in(word, most_figures):
    # None for what is no number so written, as in all that reads words.
    if len(word) == 0 or len(word) > most_figures or not all([sign in FIGURES for sign in word]):
        return None
    return int(word) if word == "0" or word[0] != "0" else None


def sizes_in(word):
    # A word without its x leaves an empty height, which is no number.
    parts = word.partition("x")
    sizes = (whole_in(parts[0], 2), whole_in(parts[2], 2))
    return None if None in sizes else sizes


def edge_in(word, most_figures):
    parts = word[1:].partition(",")
    edge = (KINDS.get(word[:1]), whole_in(parts[0], most_figures), whole_in(parts[2], most_figures))
    return None if None in edge else edge


def side_in(word):
    parts = word.partition(":")
    edge = edge_in(parts[0], 2)
    signs = parts[2]
    if edge is None or len(signs) != 2 or signs[0] not in FACES or signs[1] not in FACES:
        return None
    return edge + (signs[0], signs[1])


def read_hall(text):
    if not isinstance(text, str):
        raise NoText(None)
    words = text.split(" ")
    sizes = sizes_in(words[0])
    if sizes is None:
        raise NoText(0)
    sides = [side_in(word) for word in words[1:]]
    if None in sides:
        raise NoText(1 + sides.index(None))
    return checked((sizes[0], sizes[1], tuple(sides)))


def show_side(side):
    sign = SIGNS[side[0]]
    x = side[1]
    y = side[2]
    one = side[3]
    other = side[4]
    return f"{sign}{x},{y}:{one}{other}"


def show_hall(hall):
    width = hall[0]
    height = hall[1]
    return " ".join([f"{width}x{height}"] + [show_side(side) for side in sorted(hall[2])])
