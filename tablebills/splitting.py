"""A total split by weights, to the penny."""


def cuts(total, weights):
    """The CUT of each weight."""
    whole = sum(weights)
    return tuple([total * weight // whole for weight in weights])


def rests(total, weights):
    """The REST of each weight."""
    whole = sum(weights)
    return tuple([total * weight - cut * whole for weight, cut in zip(weights, cuts(total, weights))])


def split(total, weights):
    """The SPLIT of the total by the weights."""
    parts = list(cuts(total, weights))
    left = rests(total, weights)
    odd = total - sum(parts)
    # Of like RESTS the first go ahead: the places behind the RESTS keep them in order.
    turn = sorted([(-rest, at) for at, rest in enumerate(left)])
    for rest, at in turn[:odd]:
        parts[at] += 1
    return tuple(parts)
