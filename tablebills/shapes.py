"""What stands in the places of a DEED, for all that look at DEEDS, write, read or rename them."""

# "other" is unlike the thing just ahead of it; a place of LEAST_SEATS stands last.
PLACES = {
    "sit": ("seat", "table"),
    "move": ("seat", "table"),
    "join": ("table", "other"),
    "go": ("seat",),
    "ask": ("dish", "item", "course", "seats"),
    "change": ("dish", "item"),
    "fire": ("table", "course"),
    "rush": ("table", "course"),
    "serve": ("dish",),
    "back": ("dish",),
    "strike": ("dish",),
    "pay": ("seat", "pence"),
    "take": ("seat", "other", "pence"),
    "even": ("party",),
}

# The places that have a tuple of SEATS, with how many these are at the least.
LEAST_SEATS = {"seats": 1, "party": 2}
