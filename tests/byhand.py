"""The walks of the document told a second time, plainly and in Fractions, for the tests to compare with."""

from fractions import Fraction


def number(value):
    fraction = Fraction(value)
    return (fraction.numerator, fraction.denominator)


def at(x, y):
    """A point, or a step, of two values that Fraction takes: at("1/2", 3)."""
    return (number(x), number(y))


def values(point):
    return [Fraction(*part) for part in point]


def edges_of(width, height):
    """Every edge of the floor, flat ones first, as they are sorted."""
    flat = [("flat", x, y) for x in range(width) for y in range(height + 1)]
    upright = [("up", x, y) for x in range(width + 1) for y in range(height)]
    return flat + upright


def is_on_rim(width, height, kind, x, y):
    return x in (0, width) if kind == "up" else y in (0, height)


def sides_by_edge(hall):
    width, height, sides = hall
    found = {edge: ("p", "p") for edge in edges_of(width, height) if is_on_rim(width, height, *edge)}
    found.update({side[:3]: side[3:] for side in sides})
    return found


def corners_of(hall):
    found = set()
    for kind, x, y in sides_by_edge(hall):
        found |= {(x, y), (x, y + 1) if kind == "up" else (x + 1, y)}
    return found


def share_to_whole(value, speed):
    """Which share of the step it takes from the value to the next whole one; None where it never comes."""
    if speed == 0:
        return None
    ahead = value // 1 + 1 if speed > 0 else -(-value // 1) - 1
    return (ahead - value) / speed


def share_to_person(place, speed, person):
    shares = {(theirs - mine) / by for mine, by, theirs in zip(place, speed, person) if by != 0}
    stays = all(mine == theirs for mine, by, theirs in zip(place, speed, person) if by == 0)
    return shares.pop() if stays and len(shares) == 1 else None


def first_person(people, place, speed, limit):
    met = []
    for person in people:
        share = share_to_person(place, speed, values(person))
        if share is not None and 0 < share < limit:
            met.append((share, person))
    return min(met)[1] if met else None


def told(place):
    return tuple(number(part) for part in place)


def line_met(sides, place):
    """The faces of the edge that is come to, and which part of the step it stands against."""
    if place[0].denominator == 1:
        return sides.get(("up", int(place[0]), place[1] // 1)), 0
    return sides.get(("flat", place[0] // 1, int(place[1]))), 1


def walk_by_hand(hall, people, point, step, most):
    """Goes from line to line in the hall itself, with the share of the step that is left."""
    sides, corners = sides_by_edge(hall), corners_of(hall)
    place, speed, left, turns = values(point), values(step), Fraction(1), []
    while True:
        shares = [share_to_whole(mine, by) for mine, by in zip(place, speed)]
        share = min([share for share in shares if share is not None] + [left])
        # In the last stretch whoever stands at its very end is not met.
        person = first_person(people, place, speed, share)
        if person is not None:
            return ("person", person, turns)
        place = [mine + share * by for mine, by in zip(place, speed)]
        left -= share
        if tuple(place) in corners:
            return ("corner", told(place), turns)
        if left == 0:
            return ("end", told(place), turns)
        if place[0].denominator == 1 and place[1].denominator == 1:
            continue
        pair, part = line_met(sides, place)
        if pair is None:
            continue
        face = pair[0] if speed[part] > 0 else pair[1]
        if face == "p":
            return ("plain", told(place), turns)
        if len(turns) == most:
            return ("many", told(place), turns)
        turns.append(told(place))
        speed[part] = -speed[part]


def random_hall(chance, width, height, share, mirrors):
    """Each edge has a side with the chance SHARE (on the rim always), each face is a mirror with the chance MIRRORS."""
    sides = []
    for kind, x, y in edges_of(width, height):
        rim = is_on_rim(width, height, kind, x, y)
        signs = ["m" if chance.random() < mirrors else "p" for face in range(2)]
        if rim:
            signs[0 if (x if kind == "up" else y) == 0 else 1] = "p"
        if rim or chance.random() < share:
            sides.append((kind, x, y) + tuple(signs))
    chance.shuffle(sides)
    return (width, height, tuple(sides))


def random_person(chance, width, height, bottoms):
    parts = []
    for size in (width, height):
        bottom = chance.choice(bottoms)
        parts.append(Fraction(chance.randrange(size) * bottom + chance.randrange(1, bottom), bottom))
    return told(parts)


def random_people(chance, width, height, count, bottoms):
    """At most COUNT of them, since nobody stands where another one does."""
    drawn = [random_person(chance, width, height, bottoms) for turn in range(count)]
    return list(dict.fromkeys(drawn))


def path_of(point, way):
    """The bends of a way that `ways` told, from its begin to its end, worked out of its step and its turns alone."""
    dx, dy, turns = way
    bends = [values(point)] + [values(turn) for turn in turns]
    speed, left = values((dx, dy)), Fraction(1)
    for near, far in zip(bends, bends[1:]):
        part = 0 if speed[0] != 0 else 1
        left -= (far[part] - near[part]) / speed[part]
        # A turn on an upright line changes the first part, one on a flat line the second.
        speed[0 if far[0].denominator == 1 else 1] *= -1
    return bends + [[near + left * by for near, by in zip(bends[-1], speed)]]


def is_on_stretch(near, far, spot):
    cross = (far[0] - near[0]) * (spot[1] - near[1]) - (far[1] - near[1]) * (spot[0] - near[0])
    between = all(min(one, other) <= part <= max(one, other) for one, other, part in zip(near, far, spot))
    return cross == 0 and between


def goes_through(path, spot):
    """Whether the spot lies on the path, ahead of its end."""
    spot = list(spot)
    return spot != path[-1] and any(is_on_stretch(near, far, spot) for near, far in zip(path, path[1:]))


def comes_to_edge(path, kind, x, y):
    """Whether the path has a point of the edge, its two ends with it."""
    along = 1 if kind == "up" else 0
    line, first = (x, y) if kind == "up" else (y, x)
    for near, far in zip(path, path[1:]):
        low, high = sorted([near[1 - along], far[1 - along]])
        if low <= line <= high and low != high:
            share = (line - near[1 - along]) / (far[1 - along] - near[1 - along])
            if first <= near[along] + share * (far[along] - near[along]) <= first + 1:
                return True
    return False
