"""One turn with a die, held at a told sum: what it brings, and how likely."""


def lowest(above, below):
    """The fraction above / below in lowest terms, as a list of two; 0 is 0 and 1."""
    divisor = above
    rest = below
    while rest > 0:
        smaller = divisor % rest
        divisor = rest
        rest = smaller
    return [above // divisor, below // divisor]


def whole_weight(faces, hold):
    """The weight of all that can happen in a turn."""
    # A face that goes on is 2 or more, so a turn has at most half of hold throws, rounded up:
    # this weight can be shared out among the faces that often without a rest.
    weight = 1
    for throw in range((hold + 1) // 2):
        weight *= faces
    return weight


def weights_of_sums(faces, hold):
    """For each sum from 0 up, the weight of coming to it without a 1."""
    weights = [0] * (hold + faces)
    weights[0] = whole_weight(faces, hold)
    for total in range(hold):
        share = weights[total] // faces
        for face in range(2, faces + 1):
            weights[total + face] += share
    return weights


def average(faces, hold):
    """How much a turn brings on average."""
    weights = weights_of_sums(faces, hold)
    gained = sum([total * weights[total] for total in range(hold, hold + faces)])
    return lowest(gained, weights[0])


def chance_of_nothing(faces, hold):
    """How likely a turn brings 0."""
    weights = weights_of_sums(faces, hold)
    return lowest(weights[0] - sum(weights[hold:]), weights[0])


def chances_of_ends(faces, hold):
    """Each number above 0 that a turn can bring, rising: a list of it and its chance."""
    weights = weights_of_sums(faces, hold)
    reached = [total for total in range(hold, hold + faces) if weights[total] > 0]
    return [[total] + lowest(weights[total], weights[0]) for total in reached]


def is_more(one, other):
    """Whether the fraction one is above the fraction other."""
    return one[0] * other[1] > other[0] * one[1]


def best_hold(faces, most):
    """The least hold of 1 to most with the highest average, then that average."""
    best = 1
    highest = average(faces, best)
    for hold in range(2, most + 1):
        brought = average(faces, hold)
        if is_more(brought, highest):
            best = hold
            highest = brought
    return [best] + highest
