"""Hiding: the middles of two points in a box, and the fewest hiders that hide one person from another."""

from selfsight.amounts import amount
from selfsight.boxes import rim_points
from selfsight.errors import NoHiding
from selfsight.halls import faces, is_within, may_stand
from selfsight.walks import Floor, walk_on
from selfsight.ways import is_way, ways


def middle_parts(size, one, other):
    # All over one bottom, so that sorted tops are sorted numbers.
    bottom = 2 * one[1] * other[1]
    half_sum = one[0] * other[1] + other[0] * one[1]
    half_difference = abs(one[0] * other[1] - other[0] * one[1])
    whole = size * bottom
    tops = [half_sum, whole - half_sum, half_difference, whole - half_difference]
    return [amount(top, bottom) for top in sorted(set(tops))]


def middles(width, height, one, other):
    left_out = rim_points(width, height) + [one, other]
    found = []
    parts_upward = middle_parts(height, one[1], other[1])
    for x in middle_parts(width, one[0], other[0]):
        for y in parts_upward:
            if (x, y) not in left_out:
                found.append((x, y))
    return found


def is_hider(hall, people, hider):
    if hider[0] == "stand":
        return may_stand(hall, hider[1:]) and hider[1:] not in people
    return is_within(hall, hider[1], hider[2], hider[3]) and faces(hall, hider[1], hider[2], hider[3]) is None


def floor_with(hall, people, hider):
    if hider[0] == "stand":
        return Floor(hall, list(people) + [hider[1:]])
    screen = hider[1:] + ("p", "p")
    return Floor((hall[0], hall[1], hall[2] + (screen,)), people)


def marked_ways(hall, people, one, other, most, hiders):
    # A hider lies on a way just where the way is none any more when the hider is there. Of the ways on which the same
    # hiders lie one is kept; those with few come first, so that few hiders are to be tried for each.
    floors = [floor_with(hall, people, hider) for hider in hiders]
    by_hiders = {}
    for way in ways(hall, people, one, other, most):
        step = way[:2]
        lying = []
        for number, floor in enumerate(floors):
            if not is_way(walk_on(floor, people[one], step, most), people[other]):
                lying.append(number)
        if lying == []:
            raise NoHiding(step[0], step[1])
        by_hiders.setdefault(tuple(lying), step)
    return sorted(by_hiders.items(), key=lambda marked: len(marked[0]))


def ways_left(marked, number):
    return [each for each in marked if number not in each[0]]


def hiding_set(marked, many):
    # None where no MANY hiders hide: one that lies on the first way must be among them.
    if marked == []:
        return []
    if many == 0:
        return None
    for number in marked[0][0]:
        others = hiding_set(ways_left(marked, number), many - 1)
        if others is not None:
            return [number] + others
    return None


def least_set(marked):
    many = 0
    found = hiding_set(marked, many)
    while found is None:
        many += 1
        found = hiding_set(marked, many)
    return sorted(found)


def least_hiding(hall, people, one, other, most, hiders):
    return least_set(marked_ways(hall, people, one, other, most, hiders))


def tree_of(marked, many):
    # The same search as that of hiding_set, which for so many finds none: so a way is always left.
    lying = marked[0][0] if many > 0 else ()
    step = marked[0][1]
    return (step[0], step[1], [(number, tree_of(ways_left(marked, number), many - 1)) for number in lying])


def paper(hall, people, one, other, most, hiders):
    marked = marked_ways(hall, people, one, other, most, hiders)
    many = len(least_set(marked)) - 1
    return tree_of(marked, many) if many >= 0 else None
