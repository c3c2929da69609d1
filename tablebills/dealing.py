"""Pence dealt to hands by a turn that goes on."""


def numbers_below(limit, many, hand):
    """How many NUMBERS from 0 on below the limit have the rest hand by many."""
    return (limit - hand + many - 1) // many


def deal(pence, many, begun=0):
    """The pence DEALT to so many hands, begun at begun."""
    ended = begun + pence
    return tuple([numbers_below(ended, many, hand) - numbers_below(begun, many, hand)
                  for hand in range(many)])


def dealt_on(pieces, many):
    """Each piece DEALT, begun where the one ahead of it ended."""
    told = []
    begun = 0
    for pence in pieces:
        told.append(deal(pence, many, begun))
        begun += pence
    return told
