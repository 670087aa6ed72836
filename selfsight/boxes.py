"""Boxes of mirrors: what is seen in them, told without walking, by folding them out."""

from selfsight.amounts import below, minus, plus
from selfsight.directions import NO_STEP, direction
from selfsight.halls import checked


def box(width, height):
    # Sizes that are none are refused ahead of the sides, of which there might be too many to make.
    checked((width, height, ()))
    sides = []
    for x in range(width):
        sides.append(("flat", x, 0, "p", "m"))
        sides.append(("flat", x, height, "m", "p"))
    for y in range(height):
        sides.append(("up", 0, y, "p", "m"))
        sides.append(("up", width, y, "m", "p"))
    return checked((width, height, tuple(sides)))


def folded_out(size, place, number):
    within = minus((size, 1), place) if number % 2 == 1 else place
    return plus((number * size, 1), within)


def image_at(width, height, point, cell):
    return (folded_out(width, point[0], cell[0]), folded_out(height, point[1], cell[1]))


def cells_within(most):
    found = []
    for i in range(-most, most + 1):
        rest = most - abs(i)
        for j in range(-rest, rest + 1):
            found.append((i, j))
    return found


def rim_points(width, height):
    found = []
    for x in range(width + 1):
        for y in range(height + 1):
            if x in (0, width) or y in (0, height):
                found.append(((x, 1), (y, 1)))
    return found


def things_in(width, height, people):
    corners = [(point, "corner", None) for point in rim_points(width, height)]
    return corners + [(point, "person", number) for number, point in enumerate(people)]


def step_to(begin, end):
    return (minus(end[0], begin[0]), minus(end[1], begin[1]))


def length(step):
    # Not as the crow flies, but steps of one direction have the same order by it.
    return plus((abs(step[0][0]), step[0][1]), (abs(step[1][0]), step[1][1]))


def first_things(width, height, people, one, most):
    # For each direction the nearest thing in it. Cells that a way to a cell goes through are no farther off than that
    # cell, so those within MOST hold all that can be met.
    first = {}
    things = things_in(width, height, people)
    for cell in cells_within(most):
        for point, word, who in things:
            step = step_to(people[one], image_at(width, height, point, cell))
            if step != NO_STEP:
                way = direction(step)
                far = length(step)
                if way not in first or below(far, first[way][0]):
                    first[way] = (far, word, who)
    return first


def cells(width, height, people, one, other, most):
    first = first_things(width, height, people, one, most)
    told = []
    for cell in cells_within(most):
        step = step_to(people[one], image_at(width, height, people[other], cell))
        if step != NO_STEP:
            met = first[direction(step)]
            if met[0] == length(step):
                told.append((cell[0], cell[1], "seen", other))
            else:
                told.append((cell[0], cell[1], met[1], met[2]))
    return told


def how_many(width, height, people, one, other, most):
    return len([told for told in cells(width, height, people, one, other, most) if told[2] == "seen"])
