"""DEEDS and PAGES."""

from tablebills.kinds import are_counts, are_rising_words, is_count, is_tuple_of, is_word
from tablebills.shapes import LEAST_SEATS, PLACES


def is_page(thing):
    """Whether the thing is a PAGE."""
    return is_tuple_of(thing, 2) and is_name(thing[0]) and is_deed(thing[1])


def is_name(thing):
    """Whether the thing is the name of a PAGE."""
    return are_counts(thing, 2)


def is_deed(thing):
    """Whether the thing is a DEED."""
    if not isinstance(thing, tuple) or len(thing) == 0 or not is_deed_word(thing[0]):
        return False
    places = PLACES[thing[0]]
    return (len(thing) == len(places) + 1
            and all([fits(place, thing[at], thing[at + 1]) for at, place in enumerate(places)]))


def is_deed_word(thing):
    """Whether the thing is the word of a DEED; lists can't be asked for in a dict."""
    return isinstance(thing, str) and thing in PLACES


def fits(place, ahead, part):
    """Whether the part can stand in this place of a DEED, with what stands just ahead of it."""
    if place in LEAST_SEATS:
        return are_rising_words(part) and len(part) >= LEAST_SEATS[place]
    if place in ("dish", "course"):
        return is_count(part)
    if place == "pence":
        return is_count(part) and part > 0
    return is_word(part) and (place != "other" or part != ahead)
