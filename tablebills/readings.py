"""HOUSES and PAGES read from text."""

from tablebills.deeds import fits
from tablebills.errors import NoText
from tablebills.kinds import is_word
from tablebills.menus import is_menu_row, is_off
from tablebills.shapes import LEAST_SEATS, PLACES

MOST_FIGURES = 12


def number_in(word):
    """The NUMBER that the word writes, None where it writes none."""
    if not 1 <= len(word) <= MOST_FIGURES or not all(["0" <= sign <= "9" for sign in word]):
        return None
    if word[0] == "0" and len(word) > 1:
        return None
    return int(word)


def numbers_in(word, sign):
    """What the parts of the word, between such signs, write: NUMBERS, None for each that writes none."""
    return tuple([number_in(part) for part in word.split(sign)])


def name_in(word):
    """The name of a PAGE that the word writes, None where it writes none."""
    name = numbers_in(word, ".")
    return None if len(name) != 2 or None in name else name


def read_pages(text):
    """The PAGES that the lines of the text write."""
    rows = text.split("\n")
    # One line end behind the last line is let be, and the empty text has no line.
    if rows[-1] == "":
        rows = rows[:-1]
    return tuple([read_page(row, at) for at, row in enumerate(rows)])


def read_page(text, line=0):
    """The PAGE that the text writes."""
    words = text.split(" ")
    name = name_in(words[0])
    if name is None:
        raise NoText(line, 0)
    if len(words) == 1 or words[1] not in PLACES:
        raise NoText(line, 1)
    return name, deed_in(words, line)


def deed_in(words, line):
    """The DEED that the words of a PAGE write, behind the name."""
    deed = [words[1]]
    at = 2
    for place in PLACES[words[1]]:
        if place in LEAST_SEATS:
            deed.append(seats_in(words, at, LEAST_SEATS[place], line))
            return tuple(deed)
        part = part_in(place, words[at]) if at < len(words) else None
        if not fits(place, deed[-1], part):
            raise NoText(line, at)
        deed.append(part)
        at += 1
    if at < len(words):
        raise NoText(line, at)
    return tuple(deed)


def part_in(place, word):
    """What the word writes in this place: a NUMBER where one is due, None where it writes none."""
    return number_in(word) if place in ("dish", "course", "pence") else word


def seats_in(words, begin, least, line):
    """The SEATS that all words from begin on write."""
    for at in range(begin, len(words)):
        if not is_word(words[at]) or (at > begin and words[at] <= words[at - 1]):
            raise NoText(line, at)
    if len(words) - begin < least:
        raise NoText(line, len(words))
    return tuple(words[begin:])


def read_house(text):
    """The HOUSE that the text writes."""
    words = text.split(" ")
    menu = menu_in(words)
    offs = offs_in(words, len(menu) + 1)
    # Where there are no OFFS, a word stands in their place all the same.
    at = len(menu) + 1 + max(len(offs), 1) + 1
    wait = number_at(words, at, 0)
    fires = number_at(words, at + 1, 1)
    if len(words) > at + 2:
        raise NoText(0, at + 2)
    return menu, offs, wait, fires


def menu_in(words):
    """The MENU that the words ahead of the first | write."""
    menu = []
    for at, word in enumerate(words):
        if word == "|" and at > 0:
            return tuple(menu)
        row = menu_row_in(word)
        if row is None or (at > 0 and row[0] <= menu[-1][0]):
            raise NoText(0, at)
        menu.append(row)
    raise NoText(0, len(words))


def menu_row_in(word):
    """The row of a MENU that the word writes, None where it writes none."""
    parts = word.split("/")
    if len(parts) != 3:
        return None
    prices = tuple([numbers_in(pair, ":") for pair in parts[2].split(",")])
    row = (parts[0], number_in(parts[1]), prices)
    return row if is_menu_row(row) else None


def offs_in(words, begin):
    """The OFFS that the words from begin on, up to the next |, write."""
    if words[begin:begin + 1] == ["-"]:
        if words[begin + 1:begin + 2] != ["|"]:
            raise NoText(0, begin + 1)
        return ()
    offs = []
    for at in range(begin, len(words)):
        if words[at] == "|" and at > begin:
            return tuple(offs)
        off = off_in(words[at])
        if off is None:
            raise NoText(0, at)
        offs.append(off)
    raise NoText(0, len(words))


def off_in(word):
    """The OFF that the word writes, None where it writes none."""
    parts = word.split("/")
    items = () if parts[0] == "-" else tuple(parts[0].split("+"))
    off = (items,) + tuple([number_in(part) for part in parts[1:]])
    return off if is_off(off) else None


def number_at(words, at, least):
    """The NUMBER, no less than the least, that the word in this place writes."""
    number = number_in(words[at]) if at < len(words) else None
    if number is None or number < least:
        raise NoText(0, at)
    return number
