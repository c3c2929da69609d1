"""NUMBERS, WORDS, and the plain shapes that other kinds are made of."""

LONGEST_WORD = 8


def is_number(thing):
    """Whether the thing is a NUMBER; Python counts truths as integers, the document doesn't."""
    return isinstance(thing, int) and not isinstance(thing, bool)


def is_word(thing):
    """Whether the thing is a WORD."""
    return (isinstance(thing, str) and 1 <= len(thing) <= LONGEST_WORD
            and all(["a" <= sign <= "z" for sign in thing]))
