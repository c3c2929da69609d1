"""BOOKS to go through, and what comes of them, told by the words of [4] and [5] alone."""

import random

from tablebills.costs import cost
from tablebills.readings import read_page

# Minutes below 600 have one price each; tea and soup are cheaper from 600 on, and soup dearer from 900 on.
HOUSE = ((("bun", 5, ((0, 10),)), ("ham", 9, ((0, 7),)), ("soup", 10, ((0, 450), (900, 500))), ("tea", 2, ((0, 200),)),
          ("water", 0, ((0, 0),))),
         ((("soup", "tea"), 600, 720, 50),), 40, 2)

SEATS = ("ann", "bob", "cy", "dan")
TABLES = ("one", "two", "three")
LIVING = ("asked", "fired", "served")


def book(text, first=0):
    """The BOOK of DEEDS written with a | between, each a minute behind the one ahead."""
    deeds = text.split(" | ") if text else []
    return tuple(read_page(f"{first + at}.0 {deed}") for at, deed in enumerate(deeds))


class Words:
    """[4] and [5], asked anew at each PAGE of what was done ahead of it."""

    def __init__(self, house):
        self.house = house
        self.done = []
        self.idle = []
        self.events = []
        self.evened = []
        self.firings = []

    def seated(self):
        told = {}
        for name, deed in self.done:
            if deed[0] in ("sit", "move"):
                told[deed[1]] = deed[2]
            if deed[0] == "go":
                told[deed[1]] = ""
            if deed[0] == "join":
                told = {seat: deed[1] if table == deed[2] else table for seat, table in told.items()}
        return told

    def asked(self):
        """The DISHES as they were asked: (dish, item, course, seats, cost)."""
        told = []
        for name, deed in self.done:
            if deed[0] == "ask":
                told.append((deed[1], deed[2], deed[3], deed[4], cost(*self.house[:2], deed[2], name[0])))
            if deed[0] == "change":
                told = [row[:1] + (deed[2],) + row[2:4] + (cost(*self.house[:2], deed[2], name[0]),)
                        if row[0] == deed[1] else row for row in told]
        return told

    def history(self, dish):
        return tuple((name, word) for number, name, word in self.events if number == dish)

    def state(self, dish):
        words = [word for name, word in self.history(dish) if word != "changed"]
        return words[-1] if words else None

    def table(self, dish):
        seats = [row[3] for row in self.asked() if row[0] == dish][0]
        return next((self.seated()[seat] for seat in seats if self.seated()[seat]), None)

    def of_table(self, table):
        return [row for row in self.asked() if self.table(row[0]) == table]

    def to_pay(self, seat):
        pence = sum(turned.get(seat, 0) for turned in self.evened)
        for name, deed in self.done:
            if deed[0] == "pay" and deed[1] == seat:
                pence -= deed[2]
            if deed[0] == "take" and seat in deed[1:3]:
                pence += deed[3] if deed[1] == seat else -deed[3]
        for row in self.asked():
            if seat in row[3] and self.state(row[0]) in LIVING:
                pence += dict(self.shares(row[0]))[seat]
        return pence

    def run(self, seats):
        told, begin = [], 0
        for row in self.asked():
            if row[3] == seats:
                told.append((row[0], begin, begin + row[4]))
                begin += row[4]
        return tuple(told)

    def shares(self, dish):
        seats = [row[3] for row in self.asked() if row[0] == dish][0]
        begin, end = [row[1:] for row in self.run(seats) if row[0] == dish][0]
        hands = [k % len(seats) for k in range(begin, end)]
        return tuple((seat, hands.count(hand)) for hand, seat in enumerate(seats))

    def account(self, seat):
        """The rows of [43]."""
        rows, evens = [], iter(self.evened)
        for name, deed in self.done:
            if deed[0] == "ask" and seat in deed[4] and self.state(deed[1]) in LIVING:
                rows.append((name, "dish", dict(self.shares(deed[1]))[seat]))
            if deed[0] == "take" and seat == deed[1]:
                rows.append((name, "took", deed[3]))
            if deed[0] == "take" and seat == deed[2]:
                rows.append((name, "gave", -deed[3]))
            if deed[0] == "pay" and seat == deed[1]:
                rows.append((name, "paid", -deed[2]))
            turned = next(evens).get(seat, 0) if deed[0] == "even" else 0
            if turned:
                rows.append((name, "even", turned))
        return tuple(rows)

    def sums(self):
        costs = sum(row[4] for row in self.asked() if self.state(row[0]) in LIVING)
        paid = sum(deed[2] for name, deed in self.done if deed[0] == "pay")
        return costs, paid, sum(map(self.to_pay, self.seated()))

    def at(self, table, course):
        """The DISHES of the TABLE and course that are ASKED."""
        return tuple(sorted(row[0] for row in self.of_table(table)
                            if row[2] == course and self.state(row[0]) == "asked"))

    def barring(self, table, course):
        return tuple(sorted(row[0] for row in self.of_table(table)
                            if row[2] < course and self.state(row[0]) in ("asked", "fired")))

    def jobs(self):
        """The names and JOBS of [64]."""
        minutes = {item: wanted for item, wanted, prices in self.house[0]}
        items = {row[0]: row[1] for row in self.asked()}
        names, jobs = [], []
        for name, word, table, course, dishes, barring in self.firings:
            still = [dish for dish in dishes if self.state(dish) == "fired"]
            if still:
                names.append(name)
                jobs.append((name[0], name[0] + self.house[2], sum(minutes[items[dish]] for dish in still)))
        return tuple(names), tuple(jobs)

    def reasons(self, deed):
        """Each reason of such a DEED, in the order of [4], and whether it is so."""
        word, sits = deed[0], {seat: table for seat, table in self.seated().items() if table}
        items = [row[0] for row in self.house[0]]
        if word == "sit":
            yield "here", deed[1] in sits
        if word in ("move", "go", "pay"):
            yield "gone", deed[1] not in sits
        if word == "go":
            yield "owes", self.to_pay(deed[1]) != 0
        if word == "join":
            yield "empty", deed[2] not in sits.values()
        if word == "ask":
            yield "known", self.state(deed[1]) is not None
            yield "item", deed[2] not in items
            yield "gone", not set(deed[4]) <= set(sits)
            yield "apart", len({sits.get(seat) for seat in deed[4]}) > 1
        if word == "change":
            yield "dish", self.state(deed[1]) != "asked"
            yield "item", deed[2] not in items
        if word in ("fire", "rush"):
            yield "empty", self.at(*deed[1:]) == ()
        if word == "fire":
            yield "turn", self.barring(*deed[1:]) != ()
        if word in ("serve", "back", "strike"):
            wanted = {"serve": ("fired",), "back": ("served",), "strike": ("asked", "fired")}
            yield "dish", self.state(deed[1]) not in wanted[word]
        if word == "pay":
            yield "much", deed[2] > self.to_pay(deed[1])
        if word == "take":
            yield "gone", deed[1] not in sits or deed[2] not in sits
            yield "much", deed[3] > self.to_pay(deed[2])
        if word == "even":
            yield "gone", not set(deed[1]) <= set(sits)
            yield "below", sum(map(self.to_pay, deed[1])) < 0

    def reason(self, deed):
        return next((reason for reason, so in self.reasons(deed) if so), None)

    def go(self, page):
        name, deed = page
        if self.reason(deed) is not None:
            self.idle.append((name, self.reason(deed)))
            return
        turned_to = {"ask": "asked", "change": "changed", "serve": "served", "back": "back", "strike": "struck"}
        if deed[0] in turned_to:
            self.events.append((deed[1], name, turned_to[deed[0]]))
        if deed[0] in ("fire", "rush"):
            fired = self.at(*deed[1:])
            self.firings.append((name,) + deed + (fired, self.barring(*deed[1:])))
            self.events.extend([(dish, name, "fired") for dish in fired])
        if deed[0] == "even":
            pence = [self.to_pay(seat) for seat in deed[1]]
            many, begin = len(deed[1]), len(self.evened)
            dealt = [k % many for k in range(begin, begin + sum(pence))]
            self.evened.append({seat: dealt.count(hand) - pence[hand] for hand, seat in enumerate(deed[1])})
        self.done.append(page)


def words_of(house, pages):
    words = Words(house)
    for page in pages:
        words.go(page)
    return words


def chance_deed(dice):
    """A DEED as a dice told it, of few SEATS, TABLES and DISHES."""
    word = dice.choice(("sit", "move", "join", "go") + ("ask", "fire", "serve", "back") * 4 + ("pay", "take") * 3
                       + ("change", "even") * 2 + ("rush", "strike"))
    seats = dice.sample(SEATS[:3] if dice.random() < 0.8 else SEATS, dice.choice((2, 2, 3)))
    tables = dice.sample(TABLES[:2] if dice.random() < 0.8 else TABLES, 2)
    dish, item = dice.randrange(8), dice.choice(("bun", "ham", "ham", "tart", "water"))
    pence = dice.choice((1, 2, 3, 4, 5, 7, 10, 13))
    some = tuple(sorted(seats[:dice.choice((1, 2, 3))]))
    return {
        "sit": ("sit", seats[0], tables[0]), "move": ("move", seats[0], tables[0]), "join": ("join",) + tuple(tables),
        "go": ("go", seats[0]), "ask": ("ask", dish, item, dice.randrange(3), some), "change": ("change", dish, item),
        "fire": ("fire", tables[0], dice.randrange(3)), "rush": ("rush", tables[0], dice.randrange(3)),
        "serve": ("serve", dish), "back": ("back", dish), "strike": ("strike", dish), "pay": ("pay", seats[0], pence),
        "take": ("take", seats[0], seats[1], pence), "even": ("even", tuple(sorted(seats))),
    }[word]


def chance_book(house, seed, many=40):
    """A BOOK as a dice told it, the same one of the same seed; most of its PAGES aren't IDLE."""
    dice = random.Random(seed)
    words, pages, minute = Words(house), [], dice.choice((0, 590, 880))
    for number in range(many):
        deed = ("sit", SEATS[number], "one") if number < 3 else chance_deed(dice)
        while words.reason(deed) is not None and dice.random() < 0.8:
            deed = chance_deed(dice)
        minute += dice.choice((0, 0, 1, 5))
        pages.append(((minute, number), deed))
        words.go(pages[-1])
    return tuple(pages)
