"""[84], [85], [86], with the texts of [82] and [83]: a desk."""

import random
import unittest

from tablebills.desk import Desk
from tablebills.diaries import Diary
from tablebills.errors import NoBack, NoPage, NoRow, NoSeat
from tablebills.lines import shown_house, shown_page
from tablebills.paying import to_pay
from tablebills.walking import idle
from tests.chances import BOOKS
from tests.samples import ANY_THINGS, DEEDS, HOUSE_TEXT
from tests.walks import HOUSE

OPEN = "open " + shown_house(HOUSE)
FIRST_HOUSE = "item/0/0:0 | - | 0 1"
LOOKS = ("book", "steps", "house", "turned", "pay", "idle")
SIT, BOB, ASK, PAY = "5.0 sit ann one", "5.1 sit bob one", "6.0 ask 0 bun 0 ann bob", "7.0 pay ann 4"


def desk_of(*rows):
    """A desk of the tests' HOUSE to which these rows were said."""
    desk = Desk()
    desk.say(OPEN)
    for row in rows:
        desk.say(row)
    return desk


def all_told(desk):
    return [desk.say(row) for row in LOOKS] + [desk.say(f"then {k}") for k in range(int(desk.say("steps")) + 1)]


class Checks(unittest.TestCase):
    def says(self, desk, *pairs):
        for row, answer in pairs:
            self.assertEqual(desk.say(row), answer, row)

    def refused(self, kind, field, thing, desk, row):
        """Looks whether the row is refused so, and changes nothing."""
        ahead = all_told(desk)
        with self.assertRaises(kind) as caught:
            desk.say(row)
        self.assertIs(type(caught.exception), kind)
        self.assertEqual(getattr(caught.exception, field), thing, row)
        self.assertEqual(all_told(desk), ahead, row)

    def no_row(self, desk, row):
        self.refused(NoRow, "row", row, desk, row)
        with self.assertRaises(NoRow) as caught:
            desk.say(row)
        self.assertIs(caught.exception.row, row)


class TestNew(Checks):
    def test_at_first(self):
        self.says(Desk(), ("house", FIRST_HOUSE), ("book", "-"), ("steps", "0"), ("turned", "-"), ("pay", "-"),
                  ("idle", "-"), ("then 0", "-"), ("until 0.0", "-"))

    def test_its_first_item(self):
        desk = Desk()
        self.says(desk, ("tell 1.0 sit ann one", "yes"), ("tell 2.0 ask 0 item 0 ann", "yes"),
                  ("tell 3.0 ask 1 bun 0 ann", "yes"), ("idle", "3.0=item"), ("pay", "ann=0"), ("owes ann", "0"))

    def test_by_names(self):
        self.assertEqual(Desk().say(row="steps"), "0")

    def test_two_know_nothing_of_one_another(self):
        one, other = desk_of("tell " + SIT), Desk()
        self.says(one, ("steps", "1"))
        self.says(other, ("steps", "0"), ("house", FIRST_HOUSE))


class TestDeeds(Checks):
    def test_open(self):
        desk = Desk()
        self.says(desk, ("open " + HOUSE_TEXT, "ok"), ("house", HOUSE_TEXT), (OPEN, "ok"), ("house", OPEN[5:]))
        # The diary is a new one, also of the same HOUSE.
        self.says(desk, ("tell " + SIT, "yes"), ("tell " + BOB, "yes"), (OPEN, "ok"), ("steps", "0"), ("book", "-"),
                  ("turned", "-"), ("tell " + SIT, "yes"))
        self.says(desk, ("open a/1/0:5,9:6 b/0/0:0 | -/1/2/3 a+b/0/9/100 | 120 9", "ok"),
                  ("house", "a/1/0:5,9:6 b/0/0:0 | -/1/2/3 a+b/0/9/100 | 120 9"))
        self.says(desk, ("open z/0/0:0 | - | 999999999999 1", "ok"), ("house", "z/0/0:0 | - | 999999999999 1"))

    def test_tell(self):
        desk = desk_of()
        self.says(desk, ("tell " + SIT, "yes"), ("tell " + SIT, "no"), ("tell " + PAY, "yes"), ("tell " + BOB, "yes"),
                  ("steps", "3"), ("book", f"{SIT} | {BOB} | {PAY}"))
        self.refused(NoPage, "word", "twice", desk, "tell 5.0 sit ann two")

    def test_tell_each_deed(self):
        desk = desk_of()
        for at, (deed, text) in enumerate(DEEDS):
            self.says(desk, (f"tell {at}.7 {text}", "yes"))
        self.says(desk, ("book", " | ".join(f"{at}.7 {text}" for at, (deed, text) in enumerate(DEEDS))))

    def test_bring(self):
        desk = desk_of()
        self.says(desk, ("bring " + SIT, "5.0"), (f"bring {SIT} | {BOB} | {ASK}", "5.1 6.0"), ("bring " + SIT, "-"),
                  (f"bring {SIT} | {BOB}", "-"), ("steps", "2"), ("book", f"{SIT} | {BOB} | {ASK}"))

    def test_bring_what_doesnt_rise(self):
        desk = desk_of()
        for row in (f"bring {BOB} | {SIT}", f"bring {SIT} | {SIT}", f"bring {SIT} | 5.0 sit ann two"):
            self.refused(NoPage, "word", "kind", desk, row)
        desk.say("tell " + SIT)
        self.refused(NoPage, "word", "twice", desk, "bring 5.0 sit ann two")
        self.refused(NoPage, "word", "twice", desk, f"bring 4.0 sit cy one | 5.0 sit ann two | {PAY}")
        self.refused(NoPage, "word", "kind", desk, f"bring {PAY} | 5.0 sit ann two")

    def test_back(self):
        desk = desk_of(f"bring {BOB} | {ASK}", "tell " + SIT, "tell " + PAY)
        self.says(desk, ("back", "7.0"), ("back 1", "5.0"), ("tell " + PAY, "yes"), ("back 2", "5.1 6.0 7.0"),
                  ("book", "-"), ("steps", "0"))
        self.refused(NoBack, "times", 1, desk, "back")
        self.refused(NoBack, "times", 1, desk, "back 1")
        self.refused(NoBack, "times", 0, desk, "back 0")

    def test_back_of_more_than_there_are(self):
        desk = desk_of("tell " + SIT, "tell " + BOB)
        for times in (0, 3, 999999999999):
            self.refused(NoBack, "times", times, desk, f"back {times}")
        self.says(desk, ("back 2", "5.0 5.1"))


class TestLooks(Checks):
    def test_book_then_until(self):
        desk = desk_of("tell " + PAY, f"bring {SIT} | {ASK}", "tell " + BOB)
        self.says(desk, ("book", f"{SIT} | {BOB} | {ASK} | {PAY}"), ("then 0", "-"), ("then 1", PAY),
                  ("then 2", f"{SIT} | {ASK} | {PAY}"), ("then 3", f"{SIT} | {BOB} | {ASK} | {PAY}"))
        self.says(desk, ("until 0.0", "-"), ("until 4.999", "-"), ("until 5.0", SIT), ("until 5.1", f"{SIT} | {BOB}"),
                  ("until 6.0", f"{SIT} | {BOB} | {ASK}"), ("until 999999999999.999999999999", desk.say("book")))
        for k in (4, 999999999999):
            self.refused(NoPage, "word", "number", desk, f"then {k}")

    def test_steps_and_house(self):
        desk = desk_of("tell " + SIT, "bring " + SIT, f"bring {BOB} | {ASK}")
        self.says(desk, ("steps", "2"), ("house", shown_house(HOUSE)))

    def test_turned(self):
        desk = desk_of(f"bring {SIT} | {BOB}")
        self.says(desk, ("turned", "-"), ("tell " + ASK, "yes"), ("turned", "ann bob"), ("tell " + PAY, "yes"),
                  ("turned", "ann"), ("turned", "ann"), ("tell " + PAY, "no"), ("turned", "-"), ("back 2", "6.0 7.0"),
                  ("turned", "ann bob"))

    def test_owes_and_pay(self):
        desk = desk_of(f"bring {SIT} | {BOB} | {ASK} | {PAY}")
        self.says(desk, ("owes ann", "1"), ("owes bob", "5"), ("pay", "ann=1 bob=5"), ("tell 8.0 strike 0", "yes"),
                  ("owes ann", "-4"), ("owes bob", "0"), ("pay", "ann=-4 bob=0"))
        for seat in ("cy", "one", "abcdefgh"):
            self.refused(NoSeat, "seat", seat, desk, "owes " + seat)

    def test_idle(self):
        desk = desk_of(f"bring {SIT} | {BOB} | {ASK} | {PAY}")
        self.says(desk, ("idle", "-"), ("bring 4.0 go ann | 8.10 sit ann two | 9.0 fire one 1", "4.0 8.10 9.0"),
                  ("idle", "4.0=gone 8.10=here 9.0=empty"))

    def test_looks_change_nothing(self):
        desk = desk_of("tell " + SIT, "tell " + BOB, "tell " + ASK)
        ahead = all_told(desk)
        self.says(desk, ("owes ann", "5"), ("until 6.0", desk.say("book")))
        self.assertEqual(all_told(desk), ahead)


class TestNoForm(Checks):
    DESK = f"bring {SIT} | {BOB} | {ASK}"

    def test_of_no_form(self):
        desk = desk_of(self.DESK)
        for row in ("", " ", "-", "|", "x", "ok", "yes", "hello there", "Book", "BOOK", "books", "boo", "house |", "tell",
                    "bring", "open", "then", "until", "owes", "0", "5.0", SIT, OPEN[5:], "say book", "tell page", "led",
                    "idle idle", "~" * 4000, "book\n", "\nbook", "book\nbook", "turn", "take", "len", "str", "None"):
            self.no_row(desk, row)

    def test_empty_words(self):
        desk = desk_of(self.DESK)
        rows = LOOKS + ("back", "back 1", "then 1", "until 5.0", "owes ann", "tell " + PAY, "bring " + PAY,
                        f"bring {PAY} | 8.0 go ann", OPEN)
        for row in rows:
            self.no_row(desk, " " + row)
            self.no_row(desk, row + " ")
            self.no_row(desk, row + "  ")
            for at, sign in enumerate(row):
                if sign == " ":
                    self.no_row(desk, row[:at] + " " + row[at:])

    def test_a_word_more_and_one_fewer(self):
        desk = desk_of(self.DESK)
        for row in LOOKS + ("back 1", "then 1", "until 5.0", "owes ann", "tell " + PAY, "bring " + PAY, OPEN,
                            f"bring {PAY} | 8.0 go ann"):
            for more in ("ann", "1", "5.0", "|", "-"):
                if (row, more) != ("back", "1"):
                    self.no_row(desk, f"{row} {more}")
        for row in ("back 1", "then 1", "until 5.0", "owes ann", "tell " + PAY, "bring " + PAY,
                    "open a/1/0:5 | - | 1 1", f"bring {PAY} | 8.0 go ann", f"bring {PAY} | 8.0 serve 1"):
            words = row.split(" ")
            for at in range(len(words)):
                fewer = " ".join(words[:at] + words[at + 1:])
                if fewer != "back":
                    self.no_row(desk, fewer)

    def test_numbers(self):
        desk = desk_of(self.DESK)
        for number in ("01", "00", "-1", "+1", "1.0", "1.", "one", "1000000000000", "0" * 13, "9" * 13, "9" * 4000, "True",
                       "None", "1_0", "1e3", "0x1", "~"):
            self.no_row(desk, "back " + number)
            self.no_row(desk, "then " + number)
        for name in ("5", "5.", ".5", ".", "5.0.0", "05.0", "5.00", "5,0", "1000000000000.0", "5." + "9" * 13, "-5.0", "a.b",
                     "5:0"):
            self.no_row(desk, "until " + name)
            self.no_row(desk, f"tell {name} go ann")
            self.no_row(desk, f"bring {name} go ann")
            self.no_row(desk, f"bring 1.0 go ann | {name} go ann")
        for number in ("00", "05", "1000000000000", "-5", "x"):
            self.no_row(desk, f"tell 9.0 pay ann {number}")
            self.no_row(desk, f"tell 9.0 serve {number}")
            self.no_row(desk, f"open a/1/0:{number} | - | 1 1")
            self.no_row(desk, f"open a/1/0:1 | - | {number} 1")
            self.no_row(desk, f"open a/1/0:1 | - | 1 {number}")

    def test_seats(self):
        desk = desk_of(self.DESK)
        for seat in ("Ann", "ANN", "abcdefghi", "a1", "a.b", "-", "|", "5", "ann=5", "ann,bob", "ann bob"):
            self.no_row(desk, "owes " + seat)

    def test_pages(self):
        desk = desk_of(self.DESK)
        for page in ("", "9.0", "9.0 go", "9.0 Go ann", "9.0 go Ann", "9.0 go ann bob", "9.0 goes ann", "go ann",
                     "9.0 sit ann", "9.0 join one one", "9.0 take ann ann 5", "9.0 pay ann 0", "9.0 even ann",
                     "9.0 even bob ann", "9.0 even ann ann", "9.0 ask 0 bun 0", "9.0 ask 0 bun 0 bob ann",
                     "9.0 ask 0 bun ann", "9.0 fire 0 one", "9.0 go ann |", "| 9.0 go ann", "9.0 go ann\n",
                     "9.0 go ann\n10.0 go bob"):
            self.no_row(desk, "tell " + page)
            self.no_row(desk, "bring " + page)
            self.no_row(desk, f"bring {PAY} | {page}")
            self.no_row(desk, f"bring {page} | 99.0 go ann")

    def test_several_pages(self):
        desk = desk_of(self.DESK)
        for row in ("bring 7.0 go ann|8.0 go bob", "bring 7.0 go ann |8.0 go bob", "bring 7.0 go ann| 8.0 go bob",
                    "bring 7.0 go ann 8.0 go bob", "bring 7.0 go ann | | 8.0 go bob", "bring | 8.0 go bob",
                    "bring 7.0 go ann | 8.0 go bob |", "bring 7.0 go ann , 8.0 go bob", "bring -",
                    "tell 7.0 go ann | 8.0 go bob", "bring 7.0 go ann || 8.0 go bob"):
            self.no_row(desk, row)

    def test_houses(self):
        desk = desk_of(self.DESK)
        for house in ("", "-", "a", "a/1/0:5", "a/1/0:5 | -", "a/1/0:5 | - |", "a/1/0:5 | - | 1", "a/1/0:5 | - | 1 0",
                      "a/1/0:5 | - | 1 1 1", "| - | 1 1", "a/1/0:5 | | 1 1", "a/1/0:5 - | 1 1", "A/1/0:5 | - | 1 1",
                      "b/1/0:5 a/1/0:5 | - | 1 1", "a/1/0:5 a/1/0:5 | - | 1 1", "a/1/1:5 | - | 1 1",
                      "a/1/0:5,0:6 | - | 1 1", "a/1/0:5 | a/0/1/101 | 1 1", "a/1/0:5 | b+a/0/1/5 | 1 1",
                      "a/1/0:5 | - - | 1 1", "a/1/0:5 | - a/0/1/5 | 1 1", "a/1/0:5 | - | 1 1\n"):
            self.no_row(desk, "open " + house)

    def test_ahead_of_all_else(self):
        # Each would be refused by the diary or the function, too.
        desk = desk_of(self.DESK)
        for row in ("back 007", "back 9 9", "then 09", "owes Cy", "tell 5.0 sit ann two three",
                    f"bring {BOB} | {SIT} |", "bring 5.0 sit ann two | 4.0"):
            self.no_row(desk, row)

    def test_any_text(self):
        desk = desk_of(self.DESK)
        for thing in ANY_THINGS:
            if isinstance(thing, str):
                self.no_row(desk, thing)
                for word in ("open", "tell", "bring", "back", "then", "until", "book", "house"):
                    self.no_row(desk, f"{word} {thing}")


class TestAgainstADiary(Checks):
    def test_said_and_done(self):
        """Whatever is said, the desk answers as a diary to which the same is done."""
        for seed, pages in enumerate(BOOKS[:12]):
            dice, desk, diary = random.Random(seed), desk_of(), Diary(HOUSE)
            for call in range(30):
                self.do_alike(dice, desk, diary, pages)
                self.look_alike(desk, diary)

    def do_alike(self, dice, desk, diary, pages):
        def shown(names):
            return " ".join(f"{minute}.{number}" for minute, number in names) or "-"

        if dice.random() < 0.2 and diary.steps():
            times = dice.randint(1, diary.steps())
            row, answer = f"back {times}", shown(diary.back(times))
        elif dice.random() < 0.5:
            page = dice.choice(pages)
            row, answer = "tell " + shown_page(page), "yes" if diary.tell(page) else "no"
        else:
            some = tuple(sorted(dice.sample(pages, dice.randint(1, 8))))
            row, answer = "bring " + " | ".join(map(shown_page, some)), shown(diary.bring(some))
        self.says(desk, (row, answer))

    def look_alike(self, desk, diary):
        self.says(desk, ("book", " | ".join(map(shown_page, diary.book())) or "-"), ("steps", str(diary.steps())),
                  ("turned", " ".join(diary.turned()) or "-"), ("house", shown_house(HOUSE)),
                  ("pay", " ".join(f"{seat}={pence}" for seat, pence in to_pay(HOUSE, diary.book())) or "-"),
                  ("idle", " ".join(f"{minute}.{number}={reason}"
                                    for (minute, number), reason in idle(HOUSE, diary.book())) or "-"))
        for seat, pence in to_pay(HOUSE, diary.book()):
            self.says(desk, ("owes " + seat, str(pence)))


if __name__ == "__main__":
    unittest.main()
