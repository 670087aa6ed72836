"""Ways from one person to another, and the images of the other in the mirrors."""

from selfsight.amounts import amount
from selfsight.directions import NO_STEP
from selfsight.walks import Floor, walk_on


def parts_to_images(one, other, reach):
    # All over one bottom, so that sorted tops are sorted numbers.
    bottom = one[1] * other[1]
    begin = one[0] * other[1]
    end = other[0] * one[1]
    farthest = reach * bottom
    tops = []
    for image in (end, -end):
        least = (image - begin + farthest) % (2 * bottom) - farthest
        tops = tops + list(range(least, farthest + 1, 2 * bottom))
    return [amount(top, bottom) for top in sorted(tops)]


def steps_to_images(one, other, reach_across, reach_upward):
    steps = []
    parts_upward = parts_to_images(one[1], other[1], reach_upward)
    for dx in parts_to_images(one[0], other[0], reach_across):
        for dy in parts_upward:
            if (dx, dy) != NO_STEP:
                steps.append((dx, dy))
    return steps


def is_way(told, person):
    return told[0] == "end" and told[1] == person


def ways(hall, people, one, other, most):
    floor = Floor(hall, people)
    found = []
    for step in steps_to_images(people[one], people[other], (most + 1) * hall[0], (most + 1) * hall[1]):
        told = walk_on(floor, people[one], step, most)
        if is_way(told, people[other]):
            found.append((step[0], step[1], told[2]))
    return found


def images(hall, people, one, other, most, reach):
    floor = Floor(hall, people)
    found = []
    for step in steps_to_images(people[one], people[other], reach, reach):
        told = walk_on(floor, people[one], step, most)
        word = "seen" if is_way(told, people[other]) else told[0]
        found.append((step[0], step[1], word, told[1]))
    return found
