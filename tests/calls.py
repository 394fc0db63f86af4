"""Calls written by name, for the tests."""

from daringdie.race import answers

DIE, SHOWS, BRINGS, NOTHING, ENDS, BEST, THROWS, TURNS, QUICK, DUEL, ANSWER, GO = range(12)
GREATEST = 4294967295


def flat(calls):
    return [number for call in calls for number in call]


def split(told):
    """The flat answers, one list for each call."""
    rows = []
    place = 0
    while place < len(told):
        count = told[place]
        row = told[place + 1:place + 1 + count]
        if len(row) != count:
            raise AssertionError("an answer is shorter than its count tells")
        rows.append(row)
        place += 1 + count
    return rows


def ask(*calls):
    """What each of the calls of one line is answered."""
    return split(answers(flat(calls)))


def ask_with(faces, *calls):
    """The same, about a die with so many faces."""
    return ask((DIE, faces, 10), *calls)[1:]


def ask_in_race(faces, goal, *calls):
    """What each of the calls is answered, about a die and a goal; a line has at most five such calls."""
    told = []
    for place in range(0, len(calls), 5):
        told += ask((DIE, faces, goal), *calls[place:place + 5])[1:]
    return told


def go(*faces):
    """The call go with these faces."""
    return (GO, len(faces)) + faces
