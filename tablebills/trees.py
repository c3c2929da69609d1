"""Totals parted again and again."""

from tablebills.kinds import is_count, is_tuple_of
from tablebills.splitting import split


def is_tree(thing):
    """Whether the thing is a TREE."""
    return (isinstance(thing, tuple) and all([is_pair(pair) for pair in thing])
            and any([pair[0] > 0 for pair in thing]))


def is_pair(thing):
    """Whether the thing is a pair of a TREE."""
    return is_tuple_of(thing, 2) and is_count(thing[0]) and (thing[1] == () or is_tree(thing[1]))


def leaves(total, tree):
    """The LEAVES of the total by the TREE, from left to right."""
    parts = split(total, tuple([weight for weight, below in tree]))
    told = []
    for part, (weight, below) in zip(parts, tree):
        if below == ():
            told.append(part)
        else:
            told.extend(leaves(part, below))
    return tuple(told)
