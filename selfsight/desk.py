"""The desk: keeps a hall and people by names, and answers rows."""

from selfsight.boxes import box
from selfsight.directions import NO_STEP
from selfsight.errors import NoName, NoPerson, NoRow
from selfsight.halls import may_stand
from selfsight.halltexts import read_hall, show_hall
from selfsight.hiding import is_hider, least_hiding
from selfsight.motions import mirrored, mirrored_point, opened, put, turned, turned_point
from selfsight.rows import is_name, parts_of, show_point
from selfsight.walks import walk
from selfsight.ways import images, ways


def number_of(desk, name):
    names = list(desk.people)
    if name not in names:
        raise NoName()
    return names.index(name)


def points_of(desk):
    return list(desk.people.values())


def keep_hall(desk, hall):
    desk.hall = hall
    desk.people = {}
    return "ok"


def on_hall(desk, parts):
    return keep_hall(desk, read_hall(parts[0]))


def on_box(desk, parts):
    return keep_hall(desk, box(parts[0], parts[1]))


def on_show(desk, parts):
    return show_hall(desk.hall)


def on_person(desk, parts):
    name = parts[0]
    if not is_name(name):
        raise NoName()
    point = (parts[1], parts[2])
    number = number_of(desk, name) if name in desk.people else len(desk.people)
    others = [desk.people[other] for other in desk.people if other != name]
    if not may_stand(desk.hall, point) or point in others:
        raise NoPerson(number)
    # A name that is there keeps its place in the dict's order.
    desk.people[name] = point
    return "ok"


def on_gone(desk, parts):
    if parts[0] not in desk.people:
        raise NoName()
    desk.people.pop(parts[0])
    return "ok"


def on_walk(desk, parts):
    step = (parts[1], parts[2])
    if step == NO_STEP:
        raise NoRow()
    people = points_of(desk)
    told = walk(desk.hall, people, people[number_of(desk, parts[0])], step, parts[3])
    word = told[0]
    where = show_point(told[1])
    count = len(told[2])
    return f"{word} {where} {count}"


def show_way(way):
    step = show_point(way[:2])
    count = len(way[2])
    return f"{step}:{count}"


def on_ways(desk, parts):
    one = number_of(desk, parts[0])
    other = number_of(desk, parts[1])
    return " ".join([show_way(way) for way in ways(desk.hall, points_of(desk), one, other, parts[2])])


def show_image(image):
    step = show_point(image[:2])
    word = image[2]
    return f"{step}={word}"


def on_images(desk, parts):
    one = number_of(desk, parts[0])
    other = number_of(desk, parts[1])
    told = images(desk.hall, points_of(desk), one, other, parts[2], parts[3])
    return " ".join([show_image(image) for image in told])


def on_hide(desk, parts):
    one = number_of(desk, parts[0])
    other = number_of(desk, parts[1])
    people = points_of(desk)
    hiders = parts[3:]
    for number, hider in enumerate(hiders):
        if not is_hider(desk.hall, people, hider) or hider in hiders[:number]:
            raise NoRow()
    return " ".join([str(number) for number in least_hiding(desk.hall, people, one, other, parts[2], hiders)])


def move_all(desk, hall, points):
    desk.people = dict(zip(list(desk.people), points))
    desk.hall = hall
    return "ok"


def on_turn(desk, parts):
    return move_all(desk, turned(desk.hall), [turned_point(desk.hall, point) for point in points_of(desk)])


def on_mirror(desk, parts):
    return move_all(desk, mirrored(desk.hall), [mirrored_point(desk.hall, point) for point in points_of(desk)])


def on_put(desk, parts):
    desk.hall = put(desk.hall, parts[0])
    return "ok"


def on_open(desk, parts):
    edge = parts[0]
    desk.hall = opened(desk.hall, edge[0], edge[1], edge[2])
    return "ok"


ANSWERS = {
    "hall": on_hall,
    "show": on_show,
    "box": on_box,
    "person": on_person,
    "gone": on_gone,
    "walk": on_walk,
    "ways": on_ways,
    "images": on_images,
    "hide": on_hide,
    "turn": on_turn,
    "mirror": on_mirror,
    "put": on_put,
    "open": on_open,
}


class Desk:
    def __init__(self):
        self.hall = box(1, 1)
        self.people = {}

    def say(self, row):
        parts = parts_of(row)
        answer = ANSWERS[parts[0]]
        return answer(self, parts[1:])
