"""Walks: straight ways through a hall, reflected at its mirrors."""

from selfsight.amounts import amount, below
from selfsight.halls import faces, is_corner


class Floor:
    # A hall and its people made ready, so that many walks through them need not search them anew.
    def __init__(self, hall, people):
        self.hall = hall
        self.known_faces = {}
        self.by_square = {}
        for person in people:
            square = (square_of(person[0]), square_of(person[1]))
            self.by_square.setdefault(square, []).append(person)

    def people_at(self, square):
        return self.by_square.get(square, ())

    def faces_at(self, edge):
        if edge not in self.known_faces:
            self.known_faces[edge] = faces(self.hall, edge[0], edge[1], edge[2])
        return self.known_faces[edge]


class Track:
    # One coordinate of a walk. Since mirrors stand on whole lines alone, it comes to a line once in each lap, reflected
    # or not. Its times are parts of the walk's whole time, so small that it comes to each line at a whole number.
    def __init__(self, begin, part, whole_time):
        self.begin = begin
        self.square = square_of(begin)
        self.heading = 0
        # Behind the whole time nothing is come to any more.
        self.due = whole_time + 1
        self.lap = 0
        if part[0] != 0:
            self.heading = 1 if part[0] > 0 else -1
            self.lap = part[1] * (whole_time // abs(part[0]))
            behind = begin[0] % begin[1]
            left = begin[1] - behind if self.heading > 0 else behind
            self.due = left * (self.lap // begin[1])

    def line_ahead(self):
        return self.square + 1 if self.heading > 0 else self.square

    def place_at(self, time):
        if self.heading == 0:
            return self.begin
        return amount(self.line_ahead() * self.lap - self.heading * (self.due - time), self.lap)

    def time_at(self, place):
        left = self.heading * (self.line_ahead() * place[1] - place[0])
        return amount(self.due * place[1] - left * self.lap, place[1])

    def go_on(self):
        self.square += self.heading
        self.due += self.lap

    def turn_back(self):
        self.heading = -self.heading
        self.due += self.lap


def square_of(place):
    return place[0] // place[1]


def whole_time_of(point, step):
    # A multiple of all that Track divides by, for both coordinates.
    time = 1
    for begin, part in zip(point, step):
        time = time * begin[1] * max(1, abs(part[0]))
    return time


def time_to(across, upward, person):
    # None where the straight line through this square passes the person by.
    times = []
    for track, place in ((across, person[0]), (upward, person[1])):
        if track.heading != 0:
            times.append(track.time_at(place))
        elif place != track.begin:
            return None
    return times[0] if times[0] == times[-1] else None


def person_ahead(floor, across, upward, whole_time):
    first = None
    soonest = (whole_time, 1)
    for person in floor.people_at((across.square, upward.square)):
        time = time_to(across, upward, person)
        if time is not None and below((0, 1), time) and below(time, soonest):
            first = person
            soonest = time
    return first


def face_ahead(track, pair):
    if pair is None:
        return None
    return pair[0] if track.heading > 0 else pair[1]


def thing_at(floor, across, upward, now):
    # "corner", a face's sign, or None where nothing stands.
    if across.due == now and upward.due == now:
        return "corner" if is_corner(floor.hall, across.line_ahead(), upward.line_ahead()) else None
    if across.due == now:
        return face_ahead(across, floor.faces_at(("up", across.line_ahead(), upward.square)))
    if upward.due == now:
        return face_ahead(upward, floor.faces_at(("flat", across.square, upward.line_ahead())))
    return None


def how_it_ends(thing, is_over, may_turn):
    if thing == "corner":
        return "corner"
    # An end on an edge is an end, whatever the edge is of.
    if is_over:
        return "end"
    if thing == "p":
        return "plain"
    if thing == "m" and not may_turn:
        return "many"
    return None


def pass_line(track, now, thing):
    if track.due == now:
        if thing == "m":
            track.turn_back()
        else:
            track.go_on()


def walk_on(floor, point, step, most):
    whole_time = whole_time_of(point, step)
    across = Track(point[0], step[0], whole_time)
    upward = Track(point[1], step[1], whole_time)
    turns = []
    while True:
        person = person_ahead(floor, across, upward, whole_time)
        if person is not None:
            return ("person", person, turns)
        now = min(across.due, upward.due, whole_time)
        thing = thing_at(floor, across, upward, now)
        word = how_it_ends(thing, now == whole_time, len(turns) < most)
        if word is not None:
            return (word, (across.place_at(now), upward.place_at(now)), turns)
        if thing == "m":
            turns.append((across.place_at(now), upward.place_at(now)))
        pass_line(across, now, thing)
        pass_line(upward, now, thing)


def walk(hall, people, point, step, most):
    return walk_on(Floor(hall, people), point, step, most)
