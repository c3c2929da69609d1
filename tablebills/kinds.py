"""NUMBERS, WORDS, and the plain shapes that other kinds are made of."""

LONGEST_WORD = 8


def is_number(thing):
    """Whether the thing is a NUMBER; Python counts truths as integers, the document doesn't."""
    return isinstance(thing, int) and not isinstance(thing, bool)


def is_word(thing):
    """Whether the thing is a WORD."""
    return (isinstance(thing, str) and 1 <= len(thing) <= LONGEST_WORD
            and all(["a" <= sign <= "z" for sign in thing]))


def is_count(thing):
    """Whether the thing is a NUMBER from 0 on."""
    return is_number(thing) and thing >= 0


def is_tuple_of(thing, many):
    """Whether the thing is a tuple of so many things."""
    return isinstance(thing, tuple) and len(thing) == many


def are_counts(thing, many):
    """Whether the thing is a tuple of so many NUMBERS from 0 on."""
    return is_tuple_of(thing, many) and all([is_count(part) for part in thing])


def rises(things):
    """Whether these, of one kind, rise, nothing twice."""
    return all([low < high for low, high in zip(things, things[1:])])


def are_rising_words(thing):
    """Whether the thing is a rising tuple of WORDS, perhaps ()."""
    return isinstance(thing, tuple) and all([is_word(word) for word in thing]) and rises(thing)
