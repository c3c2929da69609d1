"""HOUSES and PAGES written as text."""


def shown_house(house):
    """The text of a HOUSE."""
    menu, offs, wait, fires = house
    rows = [shown_row(row) for row in menu]
    cheaper = [shown_off(off) for off in offs] if offs else ["-"]
    return " ".join(rows + ["|"] + cheaper + ["|", str(wait), str(fires)])


def shown_row(row):
    """The word of a row of a MENU."""
    item, minutes, prices = row
    pairs = [f"{start}:{pence}" for start, pence in prices]
    return "/".join([item, str(minutes), ",".join(pairs)])


def shown_off(off):
    """The word of an OFF."""
    items, start, until, percent = off
    told = "+".join(items) if items else "-"
    return f"{told}/{start}/{until}/{percent}"


def shown_name(name):
    """The word of a PAGE's name."""
    minute, number = name
    return f"{minute}.{number}"


def shown_page(page):
    """The text of a PAGE."""
    name, deed = page
    words = [shown_name(name)]
    for part in deed:
        if isinstance(part, tuple):
            words.extend(part)
        else:
            words.append(str(part))
    return " ".join(words)


def shown_pages(pages):
    """The text of PAGES, a line for each."""
    return "\n".join([shown_page(page) for page in pages])
