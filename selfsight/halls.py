"""Halls: their sides and corners, and the people who stand in them."""

from selfsight.amounts import below
from selfsight.errors import NoHall, NoPerson

GREATEST_SIZE = 8
FACES = ("m", "p")


def is_whole(value):
    # Python counts True and False among the ints; the program does not.
    return isinstance(value, int) and not isinstance(value, bool)


def is_from_to(value, least, greatest):
    return is_whole(value) and least <= value and value <= greatest


def is_edge(width, height, kind, x, y):
    if kind == "up":
        return is_from_to(x, 0, width) and is_from_to(y, 0, height - 1)
    if kind == "flat":
        return is_from_to(x, 0, width - 1) and is_from_to(y, 0, height)
    return False


def outward_face(width, height, kind, x, y):
    # A place in a side's tuple (None for an edge within), since an edge may have no side told to look into.
    line = x if kind == "up" else y
    last = width if kind == "up" else height
    if line == 0:
        return 3
    if line == last:
        return 4
    return None


def is_within(hall, kind, x, y):
    return is_edge(hall[0], hall[1], kind, x, y) and outward_face(hall[0], hall[1], kind, x, y) is None


def is_side(width, height, side):
    if not is_edge(width, height, side[0], side[1], side[2]):
        return False
    # FACES is a tuple and no text: "mp" and "" lie in the text "mp", but are no faces.
    if side[3] not in FACES or side[4] not in FACES:
        return False
    outward = outward_face(width, height, side[0], side[1], side[2])
    return outward is None or side[outward] == "p"


def checked(hall):
    width = hall[0]
    height = hall[1]
    if not is_from_to(width, 1, GREATEST_SIZE) or not is_from_to(height, 1, GREATEST_SIZE):
        raise NoHall(None)
    told = {}
    for number, side in enumerate(hall[2]):
        # The edge is looked up behind is_side alone: before it, X and Y may be no keys at all.
        if not is_side(width, height, side) or side[:3] in told:
            raise NoHall(number)
        told[side[:3]] = True
    return (width, height, tuple(sorted(hall[2])))


def faces(hall, kind, x, y):
    for side in hall[2]:
        if side[:3] == (kind, x, y):
            return side[3:]
    if outward_face(hall[0], hall[1], kind, x, y) is None:
        return None
    return ("p", "p")


def is_corner(hall, x, y):
    width = hall[0]
    height = hall[1]
    if not is_from_to(x, 0, width) or not is_from_to(y, 0, height):
        return False
    if x in (0, width) or y in (0, height):
        return True
    edges = [("up", x, y - 1), ("up", x, y), ("flat", x - 1, y), ("flat", x, y)]
    return any([side[:3] in edges for side in hall[2]])


def is_between_lines(number, last):
    # Numbers are in lowest terms, so the whole ones are those with the bottom 1.
    return number[1] != 1 and below((0, 1), number) and below(number, (last, 1))


def may_stand(hall, point):
    return is_between_lines(point[0], hall[0]) and is_between_lines(point[1], hall[1])


def people_in(hall, people):
    for number, point in enumerate(people):
        if not may_stand(hall, point) or point in people[:number]:
            raise NoPerson(number)
    return list(people)
