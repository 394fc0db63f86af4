"""The calls about one die and a goal, handed in and answered as flat lists of whole numbers."""

from daringdie.turn import answer_hold, average, average_throws, average_turns, best_hold, brought_by
from daringdie.turn import chance_of_nothing, chances_of_ends, duel_chance, quick_hold

OUT_OF_RANGE = -1
AT_GOAL = -3

# How many whole numbers stand behind a call's own number, by that number; go, the last, tells its count itself.
ARGUMENT_COUNTS = (2, 0, 1, 1, 1, 1, 1, 2, 1, 4, 3)
GO = 11


def is_hold(number):
    """Whether a turn can be held at the number."""
    return 1 <= number <= 100


class Race:
    """The die and the goal that the calls of one line are about."""

    def __init__(self):
        self.faces = 6
        self.goal = 10

    def die(self, faces, goal):
        if not 2 <= faces <= 10 or not 1 <= goal <= 10:
            return [OUT_OF_RANGE]
        self.faces = faces
        self.goal = goal
        return [0]

    def shows(self):
        return [self.faces, self.goal]

    def brings(self, hold):
        if not is_hold(hold):
            return [OUT_OF_RANGE]
        return [0] + average(self.faces, hold)

    def nothing(self, hold):
        if not is_hold(hold):
            return [OUT_OF_RANGE]
        return [0] + chance_of_nothing(self.faces, hold)

    def ends(self, hold):
        if not is_hold(hold):
            return [OUT_OF_RANGE]
        found = chances_of_ends(self.faces, hold)
        told = [len(found)]
        for end in found:
            told.extend(end)
        return told

    def best(self, most):
        if not is_hold(most):
            return [OUT_OF_RANGE]
        return best_hold(self.faces, most)

    def throws(self, hold):
        if not is_hold(hold):
            return [OUT_OF_RANGE]
        return [0] + average_throws(self.faces, hold)

    def turns(self, hold, points):
        if not is_hold(hold):
            return [OUT_OF_RANGE]
        if points >= self.goal:
            return [AT_GOAL]
        return [0] + average_turns(self.faces, hold, self.goal - points)

    def quick(self, points):
        if points >= self.goal:
            return [AT_GOAL]
        return quick_hold(self.faces, self.goal, self.goal - points)

    def duel(self, hold, points, other_hold, other_points):
        if not is_hold(hold) or not is_hold(other_hold):
            return [OUT_OF_RANGE]
        if points >= self.goal or other_points >= self.goal:
            return [AT_GOAL]
        return [0] + duel_chance(self.faces, hold, self.goal - points, other_hold, self.goal - other_points)

    def answer(self, points, other_hold, other_points):
        if not is_hold(other_hold):
            return [OUT_OF_RANGE]
        if points >= self.goal or other_points >= self.goal:
            return [AT_GOAL]
        return answer_hold(self.faces, self.goal, self.goal - points, other_hold, self.goal - other_points)

    def go(self, thrown):
        for face in thrown:
            if not 1 <= face <= self.faces:
                return [OUT_OF_RANGE]
        return brought_by(thrown)


def answer_call(race, number, arguments):
    """What the race answers to the call of that number."""
    if number == 0:
        return race.die(arguments[0], arguments[1])
    if number == 1:
        return race.shows()
    if number == 2:
        return race.brings(arguments[0])
    if number == 3:
        return race.nothing(arguments[0])
    if number == 4:
        return race.ends(arguments[0])
    if number == 5:
        return race.best(arguments[0])
    if number == 6:
        return race.throws(arguments[0])
    if number == 7:
        return race.turns(arguments[0], arguments[1])
    if number == 8:
        return race.quick(arguments[0])
    if number == 9:
        return race.duel(arguments[0], arguments[1], arguments[2], arguments[3])
    if number == 10:
        return race.answer(arguments[0], arguments[1], arguments[2])
    return race.go(arguments[1:])


def end_of_call(calls, place):
    """Where the call that begins at the place is over."""
    number = calls[place]
    if number == GO:
        return place + 2 + calls[place + 1]
    return place + 1 + ARGUMENT_COUNTS[number]


def answers(calls):
    """For each call, in order: how many numbers are answered, then these."""
    race = Race()
    told = []
    place = 0
    while place < len(calls):
        behind = end_of_call(calls, place)
        answer = answer_call(race, calls[place], calls[place + 1:behind])
        told.append(len(answer))
        told.extend(answer)
        place = behind
    return told
