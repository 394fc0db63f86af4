"""Turns with a die, each held at a told sum: what one brings, how many reach a goal, and who is there first."""


def lowest(above, below):
    """The fraction above / below in lowest terms, as a list of two; 0 is 0 and 1."""
    divisor = above
    rest = below
    while rest > 0:
        smaller = divisor % rest
        divisor = rest
        rest = smaller
    return [above // divisor, below // divisor]


def whole_weight(faces, hold):
    """The weight of all that can happen in a turn."""
    # A face that goes on is 2 or more, so a turn has at most half of hold throws, rounded up:
    # this weight can be shared out among the faces that often without a rest.
    weight = 1
    for throw in range((hold + 1) // 2):
        weight *= faces
    return weight


def weights_of_sums(faces, hold):
    """For each sum from 0 up, the weight of coming to it without a 1."""
    weights = [0] * (hold + faces)
    weights[0] = whole_weight(faces, hold)
    for total in range(hold):
        share = weights[total] // faces
        for face in range(2, faces + 1):
            weights[total + face] += share
    return weights


def average(faces, hold):
    """How much a turn brings on average."""
    weights = weights_of_sums(faces, hold)
    gained = sum([total * weights[total] for total in range(hold, hold + faces)])
    return lowest(gained, weights[0])


def chance_of_nothing(faces, hold):
    """How likely a turn brings 0."""
    weights = weights_of_sums(faces, hold)
    return lowest(weights[0] - sum(weights[hold:]), weights[0])


def average_throws(faces, hold):
    """How many throws a turn has on average."""
    # Each sum below hold that a turn comes to is thrown from once.
    weights = weights_of_sums(faces, hold)
    return lowest(sum(weights[:hold]), weights[0])


def chances_of_ends(faces, hold):
    """Each number above 0 that a turn can bring, rising: a list of it and its chance."""
    weights = weights_of_sums(faces, hold)
    reached = [total for total in range(hold, hold + faces) if weights[total] > 0]
    return [[total] + lowest(weights[total], weights[0]) for total in reached]


def is_more(one, other):
    """Whether the fraction one is above the fraction other."""
    return one[0] * other[1] > other[0] * one[1]


def first_highest(fractions):
    """At which place the first of the highest fractions stands."""
    found = 0
    for place in range(1, len(fractions)):
        if is_more(fractions[place], fractions[found]):
            found = place
    return found


def best_hold(faces, most):
    """The least hold of 1 to most with the highest average, then that average."""
    averages = [average(faces, hold) for hold in range(1, most + 1)]
    found = first_highest(averages)
    return [found + 1] + averages[found]


def shared_sum(weights, fractions, whole):
    """The sum of the fractions, each taken as often as its weight tells, shared out by whole."""
    total = [0, 1]
    for place in range(len(weights)):
        if weights[place] > 0:
            fraction = fractions[place]
            above = total[0] * fraction[1] + weights[place] * fraction[0] * total[1]
            total = lowest(above, total[1] * fraction[1])
    return lowest(total[0], total[1] * whole)


def weights_of_missing(faces, hold, missing):
    """For each number of points from 0 to missing, the weight that so many are missing behind a turn in a race."""
    held = min(hold, missing)
    sums = weights_of_sums(faces, held)
    weights = [0] * (missing + 1)
    for total in range(held, held + faces):
        weights[max(missing - total, 0)] += sums[total]
    # All the rest brings nothing: as many are missing as before.
    weights[missing] = sums[0] - sum(weights)
    return weights


def weights_in_race(faces, hold, missing):
    """The weights behind a turn in a race with 1 point missing, with 2 and so on up to missing."""
    return [weights_of_missing(faces, hold, still) for still in range(1, missing + 1)]


def average_turns(faces, hold, missing):
    """How many turns it takes on average until nothing is missing."""
    averages = [[0, 1]]
    for weights in weights_in_race(faces, hold, missing):
        whole = sum(weights)
        # A turn that brings nothing begins the same again, so all is shared out among the others.
        averages.append(shared_sum([whole] + weights[:-1], [[1, 1]] + averages, whole - weights[-1]))
    return averages[missing]


def quick_hold(faces, most, missing):
    """The least hold of 1 to most that takes the fewest turns on average, then how many."""
    averages = [average_turns(faces, hold, missing) for hold in range(1, most + 1)]
    # The fewest are the highest once their sign is turned.
    found = first_highest([[-turns[0], turns[1]] for turns in averages])
    return [found + 1] + averages[found]


def chances_of_two(own, waiting, other, at_turn):
    """How likely the one wins, at turn and while the other is, from both ones' weights behind a turn.

    What it is with less missing is known: with less to the one, while the other is at turn (waiting),
    and with less to the other, when the one is at turn (at_turn).
    """
    other_whole = sum(other)
    moved = shared_sum(own[:-1], waiting, 1)
    let_go_on = shared_sum(other[:-1], at_turn, 1)
    # If both bring nothing all begins the same again, so all is shared out among what else happens.
    ending = sum(own) * other_whole - own[-1] * other[-1]
    chance = shared_sum([other_whole, own[-1]], [moved, let_go_on], ending)
    return [chance, shared_sum([1, other[-1]], [let_go_on, chance], other_whole)]


def chance_to_win(own, other):
    """How likely the one at turn wins, from both ones' weights in the race."""
    # The chance while the other is at turn, by what's missing to the other, then by what's missing to the one:
    # who has nothing missing behind their own turn has won.
    waiting = [[[1, 1]] for place in range(len(other))]
    at_turn = []
    for weights in own:
        at_turn = [[0, 1]]
        for place in range(len(other)):
            both = chances_of_two(weights, waiting[place], other[place], at_turn)
            at_turn.append(both[0])
            waiting[place].append(both[1])
    return at_turn[len(other)]


def duel_chance(faces, hold, missing, other_hold, other_missing):
    """How likely the one at turn wins, if both hold as told."""
    own = weights_in_race(faces, hold, missing)
    return chance_to_win(own, weights_in_race(faces, other_hold, other_missing))


def answer_hold(faces, most, missing, other_hold, other_missing):
    """The least hold of 1 to most with which the one at turn wins likeliest, then how likely."""
    chances = [duel_chance(faces, hold, missing, other_hold, other_missing) for hold in range(1, most + 1)]
    found = first_highest(chances)
    return [found + 1] + chances[found]


def brought_by(thrown):
    """How much the faces thrown bring, then how many of them counted."""
    if 1 in thrown:
        return [0, thrown.index(1) + 1]
    return [sum(thrown), len(thrown)]
