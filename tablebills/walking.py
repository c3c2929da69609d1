"""Going through a BOOK in a HOUSE, PAGE by PAGE."""

from tablebills.costs import cost
from tablebills.dealing import deal
from tablebills.errors import NoDish, NoSeat
from tablebills.kinds import is_number, is_word

# The TABLE of a SEAT that is gone.
GONE = ""

# The reason of a PAGE that isn't IDLE.
DONE = ""

LIVING = ("asked", "fired", "served")
BARRING = ("asked", "fired")

# The states that a DISH may have ahead of these DEEDS, and the one that it has behind.
TURNS = {
    "serve": (("fired",), "served"),
    "back": (("served",), "back"),
    "strike": (("asked", "fired"), "struck"),
}


class Dish:
    """A DISH as it stands."""

    def __init__(self, course, seats):
        self.course = course
        self.seats = seats
        self.item = ""
        self.cost = 0
        self.state = ""
        self.past = []


class Walk:
    """How all stands behind the PAGES gone through so far."""

    def __init__(self, house):
        self.menu = house[0]
        self.offs = house[1]
        # Where each SEAT sits, of all that sat at any time.
        self.tables = {}
        # By their NUMBERS, in the order that they were asked.
        self.dishes = {}
        # What turned what is TO PAY beside the SHARES: (name, word, seat, pence).
        self.entries = []
        # How many "even" PAGES were done.
        self.evens = 0
        # The "fire" and "rush" PAGES that were done: (name, word, table, course, dishes, barring).
        self.firings = []
        self.reasons = []


def walked(house, book):
    """The walk through all PAGES of the BOOK."""
    walk = Walk(house)
    for name, deed in book:
        doing = DOINGS[deed[0]]
        reason = doing(walk, name, deed)
        if reason != DONE:
            walk.reasons.append((name, reason))
    return walk


def sits(walk, seat):
    """Whether the SEAT sits."""
    return walk.tables.get(seat, GONE) != GONE


def all_sit(walk, seats):
    """Whether all these SEATS sit."""
    return all([sits(walk, seat) for seat in seats])


def seated_at(walk, table):
    """The SEATS that sit at the TABLE."""
    return [seat for seat in walk.tables if walk.tables[seat] == table]


def table_by(walk, seats):
    """The TABLE of a DISH of these SEATS, None where none of them sits."""
    tables = [walk.tables[seat] for seat in seats if sits(walk, seat)]
    return tables[0] if tables else None


def dishes_at(walk, table):
    """The NUMBERS of all DISHES of the TABLE, rising."""
    return [number for number in sorted(walk.dishes) if table_by(walk, walk.dishes[number].seats) == table]


def asked_at(walk, table, course):
    """The NUMBERS of the DISHES of this TABLE and course that are ASKED, rising."""
    return [number for number in dishes_at(walk, table)
            if walk.dishes[number].course == course and walk.dishes[number].state == "asked"]


def barring(walk, table, course):
    """The NUMBERS of the DISHES of this TABLE that bar the course, rising."""
    return [number for number in dishes_at(walk, table)
            if walk.dishes[number].course < course and walk.dishes[number].state in BARRING]


def begins(walk):
    """Where each DISH begins in its RUN."""
    told = {}
    ends = {}
    for number in walk.dishes:
        dish = walk.dishes[number]
        told[number] = ends.get(dish.seats, 0)
        ends[dish.seats] = told[number] + dish.cost
    return told


def account_by(walk, seat):
    """The rows (name, word, pence) of all that the SEAT has TO PAY, in no order."""
    rows = [(name, word, pence) for name, word, owner, pence in walk.entries if owner == seat]
    begun = begins(walk)
    for number in walk.dishes:
        dish = walk.dishes[number]
        if dish.state in LIVING and seat in dish.seats:
            shares = shares_by(dish, begun[number])
            rows.append((dish.past[0][0], "dish", shares[dish.seats.index(seat)]))
    return rows


def shares_by(dish, begun):
    """The SHARES of the DISH, SEAT by SEAT, which begins there in its RUN."""
    return deal(dish.cost, len(dish.seats), begun)


def to_pay_by(walk, seat):
    """What the SEAT has TO PAY."""
    return sum([pence for name, word, pence in account_by(walk, seat)])


def has_item(walk, item):
    """Whether the MENU has the ITEM."""
    return item in [row[0] for row in walk.menu]


def choose(walk, dish, item, minute):
    """The DISH is of this ITEM from this minute on."""
    dish.item = item
    dish.cost = cost(walk.menu, walk.offs, item, minute)


def turn(dish, state, name):
    """The PAGE of this name brings the DISH to this state."""
    dish.state = state
    dish.past.append((name, state))


def has_state(walk, number, states):
    """Whether the DISH was asked, and its state is one of these."""
    return number in walk.dishes and walk.dishes[number].state in states


# Each of the functions below does a DEED, or tells the reason why its PAGE is IDLE.

def do_sit(walk, name, deed):
    """Does a "sit"."""
    word, seat, table = deed
    if sits(walk, seat):
        return "here"
    walk.tables[seat] = table
    return DONE


def do_move(walk, name, deed):
    """Does a "move"."""
    word, seat, table = deed
    if not sits(walk, seat):
        return "gone"
    walk.tables[seat] = table
    return DONE


def do_join(walk, name, deed):
    """Does a "join"."""
    word, table, other = deed
    joining = seated_at(walk, other)
    if not joining:
        return "empty"
    for seat in joining:
        walk.tables[seat] = table
    return DONE


def do_go(walk, name, deed):
    """Does a "go"."""
    word, seat = deed
    if not sits(walk, seat):
        return "gone"
    if to_pay_by(walk, seat) != 0:
        return "owes"
    walk.tables[seat] = GONE
    return DONE


def do_ask(walk, name, deed):
    """Does an "ask"."""
    word, number, item, course, seats = deed
    if number in walk.dishes:
        return "known"
    if not has_item(walk, item):
        return "item"
    if not all_sit(walk, seats):
        return "gone"
    if any([walk.tables[seat] != walk.tables[seats[0]] for seat in seats]):
        return "apart"
    dish = Dish(course, seats)
    choose(walk, dish, item, name[0])
    turn(dish, "asked", name)
    walk.dishes[number] = dish
    return DONE


def do_change(walk, name, deed):
    """Does a "change"."""
    word, number, item = deed
    if not has_state(walk, number, ("asked",)):
        return "dish"
    if not has_item(walk, item):
        return "item"
    dish = walk.dishes[number]
    choose(walk, dish, item, name[0])
    dish.past.append((name, "changed"))
    return DONE


def do_fire(walk, name, deed):
    """Does a "fire" or a "rush", which no turn bars."""
    word, table, course = deed
    numbers = asked_at(walk, table, course)
    bars = barring(walk, table, course)
    if not numbers:
        return "empty"
    if word == "fire" and bars:
        return "turn"
    for number in numbers:
        turn(walk.dishes[number], "fired", name)
    walk.firings.append((name, word, table, course, tuple(numbers), tuple(bars)))
    return DONE


def do_turn(walk, name, deed):
    """Does a "serve", a "back" or a "strike"."""
    word, number = deed
    ahead, behind = TURNS[word]
    if not has_state(walk, number, ahead):
        return "dish"
    turn(walk.dishes[number], behind, name)
    return DONE


def do_pay(walk, name, deed):
    """Does a "pay"."""
    word, seat, pence = deed
    if not sits(walk, seat):
        return "gone"
    if pence > to_pay_by(walk, seat):
        return "much"
    walk.entries.append((name, "paid", seat, -pence))
    return DONE


def do_take(walk, name, deed):
    """Does a "take"."""
    word, seat, other, pence = deed
    if not all_sit(walk, (seat, other)):
        return "gone"
    if pence > to_pay_by(walk, other):
        return "much"
    walk.entries.append((name, "took", seat, pence))
    walk.entries.append((name, "gave", other, -pence))
    return DONE


def do_even(walk, name, deed):
    """Does an "even"."""
    word, seats = deed
    if not all_sit(walk, seats):
        return "gone"
    ahead = [to_pay_by(walk, seat) for seat in seats]
    if sum(ahead) < 0:
        return "below"
    parts = deal(sum(ahead), len(seats), walk.evens)
    for seat, part, pence in zip(seats, parts, ahead):
        if part != pence:
            walk.entries.append((name, "even", seat, part - pence))
    walk.evens += 1
    return DONE


DOINGS = {
    "sit": do_sit,
    "move": do_move,
    "join": do_join,
    "go": do_go,
    "ask": do_ask,
    "change": do_change,
    "fire": do_fire,
    "rush": do_fire,
    "serve": do_turn,
    "back": do_turn,
    "strike": do_turn,
    "pay": do_pay,
    "take": do_take,
    "even": do_even,
}


def idle(house, book):
    """The IDLE PAGES: names and reasons."""
    return tuple(walked(house, book).reasons)


def sitting(house, book):
    """The SEATS that sat at any time, and where they sit."""
    walk = walked(house, book)
    return tuple(sorted(walk.tables.items()))


def dishes(house, book, state=None):
    """The DISHES that were asked, or those in this state alone."""
    walk = walked(house, book)
    rows = []
    for number in sorted(walk.dishes):
        dish = walk.dishes[number]
        if state is None or dish.state == state:
            rows.append((number, dish.state, dish.item, dish.course, dish.seats, dish.cost))
    return tuple(rows)


def table_of(house, book, dish):
    """The TABLE of the DISH, any thing, None where it is of none."""
    walk = walked(house, book)
    return table_by(walk, known_dish(walk, dish).seats)


def history(house, book, dish):
    """The HISTORY of the DISH, any thing."""
    return tuple(known_dish(walked(house, book), dish).past)


def known_dish(walk, thing):
    """The DISH that the thing calls."""
    # Only NUMBERS are looked for: a list can't be, and True would be found as 1.
    if not is_number(thing) or thing not in walk.dishes:
        raise NoDish(thing)
    return walk.dishes[thing]


def known_seat(walk, thing):
    """The SEAT that the thing calls."""
    # Only WORDS are looked for: a list can't be.
    if not is_word(thing) or thing not in walk.tables:
        raise NoSeat(thing)
    return thing
