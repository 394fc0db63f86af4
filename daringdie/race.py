"""The calls about one die and a goal, handed in and answered as flat lists of whole numbers."""

from daringdie.turn import average, best_hold, chance_of_nothing, chances_of_ends

OUT_OF_RANGE = -1

# How many whole numbers stand behind a call's own number, by that number.
ARGUMENT_COUNTS = (2, 0, 1, 1, 1, 1)


def is_hold(number):
    """Whether a turn can be held at the number."""
    return 1 <= number <= 100


class Race:
    """The die and the goal that the calls of one line are about."""

    def __init__(self):
        self.faces = 6
        self.goal = 10

    def die(self, faces, goal):
        if not 2 <= faces <= 10 or not 1 <= goal <= 10:
            return [OUT_OF_RANGE]
        self.faces = faces
        self.goal = goal
        return [0]

    def shows(self):
        return [self.faces, self.goal]

    def brings(self, hold):
        if not is_hold(hold):
            return [OUT_OF_RANGE]
        return [0] + average(self.faces, hold)

    def nothing(self, hold):
        if not is_hold(hold):
            return [OUT_OF_RANGE]
        return [0] + chance_of_nothing(self.faces, hold)

    def ends(self, hold):
        if not is_hold(hold):
            return [OUT_OF_RANGE]
        found = chances_of_ends(self.faces, hold)
        told = [len(found)]
        for end in found:
            told.extend(end)
        return told

    def best(self, most):
        if not is_hold(most):
            return [OUT_OF_RANGE]
        return best_hold(self.faces, most)


def answer_call(race, number, arguments):
    """What the race answers to the call of that number."""
    if number == 0:
        return race.die(arguments[0], arguments[1])
    if number == 1:
        return race.shows()
    if number == 2:
        return race.brings(arguments[0])
    if number == 3:
        return race.nothing(arguments[0])
    if number == 4:
        return race.ends(arguments[0])
    return race.best(arguments[0])


def answers(calls):
    """For each call, in order: how many numbers are answered, then these."""
    race = Race()
    told = []
    place = 0
    while place < len(calls):
        number = calls[place]
        behind = place + 1 + ARGUMENT_COUNTS[number]
        answer = answer_call(race, number, calls[place + 1:behind])
        told.append(len(answer))
        told.extend(answer)
        place = behind
    return told
