"""A desk: rows of text told to a diary, and answered."""

from tablebills.diaries import Diary
from tablebills.errors import NoRow, NoText
from tablebills.kinds import is_word
from tablebills.lines import shown_house, shown_name, shown_page
from tablebills.paying import owes, to_pay
from tablebills.readings import name_in, number_in, read_house, read_page
from tablebills.walking import idle

FIRST_HOUSE = ((("item", 0, ((0, 0),)),), (), 0, 1)

# What is told where there are none.
NOTHING = "-"


def shown_all(texts):
    """These texts as an answer."""
    return " ".join(texts) if texts else NOTHING


def shown_names(names):
    """The names of PAGES as an answer."""
    return shown_all([shown_name(name) for name in names])


def shown_book(book):
    """PAGES as an answer."""
    return " | ".join([shown_page(page) for page in book]) if book else NOTHING


def due(thing):
    """What a text is read as, where it writes anything."""
    if thing is None:
        raise NoText(0, 0)
    return thing


# Each of the functions below answers a row of one word.

def last_back(desk):
    """Answers "back"."""
    return shown_names(desk.diary.back())


def all_pages(desk):
    """Answers "book"."""
    return shown_book(desk.diary.book())


def all_steps(desk):
    """Answers "steps"."""
    return str(desk.diary.steps())


def its_house(desk):
    """Answers "house"."""
    return shown_house(desk.diary.house())


def all_turned(desk):
    """Answers "turned"."""
    return shown_all(desk.diary.turned())


def all_to_pay(desk):
    """Answers "pay"."""
    rows = to_pay(desk.diary.house(), desk.diary.book())
    return shown_all([f"{seat}={pence}" for seat, pence in rows])


def all_idle(desk):
    """Answers "idle"."""
    rows = idle(desk.diary.house(), desk.diary.book())
    return shown_all([f"{shown_name(name)}={reason}" for name, reason in rows])


# Each of the functions below answers a row whose first word has a text behind it, or refuses the text.

def opened(desk, text):
    """Answers "open"."""
    desk.diary = Diary(read_house(text))
    return "ok"


def told(desk, text):
    """Answers "tell"."""
    return "yes" if desk.diary.tell(read_page(text)) else "no"


def brought(desk, text):
    """Answers "bring"."""
    pages = tuple([read_page(part) for part in text.split(" | ")])
    return shown_names(desk.diary.bring(pages))


def several_back(desk, text):
    """Answers "back" of several STEPS."""
    return shown_names(desk.diary.back(due(number_in(text))))


def pages_then(desk, text):
    """Answers "then"."""
    return shown_book(desk.diary.then(due(number_in(text))))


def pages_until(desk, text):
    """Answers "until"."""
    return shown_book(desk.diary.until(due(name_in(text))))


def owed(desk, text):
    """Answers "owes"."""
    seat = due(text if is_word(text) else None)
    return str(owes(desk.diary.house(), desk.diary.book(), seat))


ALONE = {
    "back": last_back,
    "book": all_pages,
    "steps": all_steps,
    "house": its_house,
    "turned": all_turned,
    "pay": all_to_pay,
    "idle": all_idle,
}

LEADING = {
    "open": opened,
    "tell": told,
    "bring": brought,
    "back": several_back,
    "then": pages_then,
    "until": pages_until,
    "owes": owed,
}


class Desk:
    """A desk that keeps a diary."""

    def __init__(self):
        self.diary = Diary(FIRST_HOUSE)

    def say(self, row):
        """The answer to the row, any text."""
        word, blank, text = row.partition(" ")
        if blank == "" and word in ALONE:
            answer = ALONE[word]
            return answer(self)
        if word in LEADING:
            return self.led(row, word, text)
        raise NoRow(row)

    def led(self, row, word, text):
        """The answer to the row of this word with the text behind it."""
        answer = LEADING[word]
        try:
            return answer(self, text)
        except NoText:
            raise NoRow(row) from None
