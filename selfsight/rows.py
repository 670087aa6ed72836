"""The rows that a desk is told: how their words are read, and how numbers and points are written."""

from selfsight.amounts import amount
from selfsight.errors import NoRow
from selfsight.halltexts import edge_in, side_in, whole_in

LETTERS = "abcdefghijklmnopqrstuvwxyz"
MOST_LETTERS = 8
MOST_FIGURES = 9


def is_name(word):
    return 0 < len(word) and len(word) <= MOST_LETTERS and all([sign in LETTERS for sign in word])


def show_number(number):
    top = number[0]
    bottom = number[1]
    return f"{top}" if bottom == 1 else f"{top}/{bottom}"


def show_point(point):
    x = show_number(point[0])
    y = show_number(point[1])
    return f"{x},{y}"


def any_word(word):
    # A name that is none is refused later than what is no row.
    return word


def whole_word(word):
    return whole_in(word, MOST_FIGURES)


def reach_word(word):
    reach = whole_word(word)
    return None if reach == 0 else reach


def number_word(word):
    is_less = word.startswith("-")
    parts = word[1:].partition("/") if is_less else word.partition("/")
    top = whole_word(parts[0])
    bottom = whole_word(parts[2]) if parts[1] == "/" else 1
    if top is None or bottom is None or bottom == 0:
        return None
    number = amount(-top if is_less else top, bottom)
    # What is not in lowest terms, or says more than it needs to, would be written otherwise.
    return number if show_number(number) == word else None


def side_word(word):
    return side_in(word)


def edge_word(word):
    return edge_in(word, MOST_FIGURES)


def place_word(word):
    # An edge goes ahead of a point: `-1,2` might be either, but no stand has an X below 0.
    edge = edge_word(word)
    if edge is not None:
        return ("screen",) + edge
    parts = word.partition(",")
    point = (number_word(parts[0]), number_word(parts[2]))
    return None if None in point else ("stand",) + point


READERS = {
    "name": any_word,
    "whole": whole_word,
    "reach": reach_word,
    "number": number_word,
    "side": side_word,
    "edge": edge_word,
    "place": place_word,
}

# What the words behind the first one are. A hall's text is no words, and so is not here.
FORMS = {
    "show": (),
    "box": ("whole", "whole"),
    "person": ("name", "number", "number"),
    "gone": ("name",),
    "walk": ("name", "number", "number", "whole"),
    "ways": ("name", "name", "whole"),
    "images": ("name", "name", "whole", "reach"),
    "hide": ("name", "name", "whole", "place"),
    "turn": (),
    "mirror": (),
    "put": ("side",),
    "open": ("edge",),
}


def form_of(first, count):
    if first not in FORMS:
        raise NoRow()
    form = FORMS[first]
    if first == "hide":
        # Any number of places may follow the first one.
        form = form + ("place",) * (count - len(form))
    if len(form) != count:
        raise NoRow()
    return form


def parts_of(row):
    # The first word, and all that the others say.
    if not isinstance(row, str):
        raise NoRow()
    halves = row.partition(" ")
    if halves[0] == "hall" and halves[1] == " ":
        return ["hall", halves[2]]
    words = row.split(" ")
    parts = [words[0]]
    for word, kind in zip(words[1:], form_of(words[0], len(words) - 1)):
        read = READERS[kind]
        part = read(word)
        if part is None:
            raise NoRow()
        parts.append(part)
    return parts
