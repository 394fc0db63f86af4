"""A second way to all that is answered, for the tests: every throw is a step, and what follows from it is solved."""

from fractions import Fraction
from functools import lru_cache


def pair(fraction):
    return [fraction.numerator, fraction.denominator]


@lru_cache(maxsize=None)
def turn(faces, hold):
    """The chances of all that a turn brings, 0 too, and how many throws it has on average, found throw by throw."""
    under_way = {0: Fraction(1)}
    ended = {}
    throws = 0
    while under_way:
        throws += sum(under_way.values())
        further = {}
        for total, chance in under_way.items():
            for face in range(1, faces + 1):
                reached = 0 if face == 1 else total + face
                place = ended if face == 1 or reached >= hold else further
                place[reached] = place.get(reached, 0) + chance / faces
        under_way = further
    return ended, throws


def solved(equations):
    """What each state is worth, of equations {state: (number, {state: factor})}, one for each state."""
    known = {}
    for state, (number, factors) in equations.items():
        factors = dict(factors)
        while found := [other for other in factors if other in known]:
            factor = factors.pop(found[0])
            other_number, other_factors = known[found[0]]
            number += factor * other_number
            for other, other_factor in other_factors.items():
                factors[other] = factors.get(other, 0) + factor * other_factor
        rest = 1 - factors.pop(state, 0)
        known[state] = (number / rest, {other: factor / rest for other, factor in factors.items()})
    worth = {}
    for state in reversed(known):
        number, factors = known[state]
        worth[state] = number + sum(factor * worth[other] for other, factor in factors.items())
    return worth


def after_throw(face, goal, hold, points, total):
    """The points, whether the turn is over, and the sum in the turn at hand, behind one throw."""
    if face == 1:
        return points, True, 0
    if total + face >= min(hold, goal - points):
        return points + total + face, True, 0
    return points, False, total + face


@lru_cache(maxsize=None)
def turn_averages(faces, goal, hold):
    """For all points below the goal, how many turns it takes on average from there."""
    equations = {}
    for points in reversed(range(goal)):
        for total in reversed(range(goal)):
            factors = {}
            for face in range(1, faces + 1):
                reached, over, further = after_throw(face, goal, hold, points, total)
                if reached < goal:
                    state = (reached, further)
                    factors[state] = factors.get(state, 0) + Fraction(1, faces)
            # A turn is counted by its first throw.
            equations[(points, total)] = (Fraction(int(total == 0)), factors)
    worth = solved(equations)
    return [worth[(points, 0)] for points in range(goal)]


def duel_equation(faces, goal, holds, state):
    """How likely the first of two wins, told by what follows from one throw of the one at turn."""
    points, place, total = state
    number = Fraction(0)
    factors = {}
    for face in range(1, faces + 1):
        reached, over, further = after_throw(face, goal, holds[place], points[place], total)
        if reached >= goal:
            number += Fraction(int(place == 0), faces)
        else:
            both = (reached, points[1]) if place == 0 else (points[0], reached)
            following = (both, 1 - place if over else place, further)
            factors[following] = factors.get(following, 0) + Fraction(1, faces)
    return number, factors


@lru_cache(maxsize=None)
def duel_chances(faces, goal, hold, other_hold):
    """For all points of both below the goal, how likely the one at turn wins."""
    equations = {}
    for points in reversed([(x, y) for x in range(goal) for y in range(goal)]):
        for total in reversed(range(goal)):
            for place in (0, 1):
                state = (points, place, total)
                equations[state] = duel_equation(faces, goal, (hold, other_hold), state)
    worth = solved(equations)
    return {(x, y): worth[((x, y), 0, 0)] for x in range(goal) for y in range(goal)}
