"""What an ITEM costs by the hour."""

from tablebills.menus import WHOLE, price


def percent_at(offs, item, minute=0):
    """The greatest percent of the OFFS that hold of the ITEM at this minute, 0 where none does."""
    return max([percent for items, start, until, percent in offs
                if item in items and start <= minute < until], default=0)


def cost(menu, offs, item, minute=0):
    """The COST of the ITEM, any thing, at this minute."""
    hundredths = price(menu, item, minute) * (WHOLE - percent_at(offs, item, minute))
    # Odd hundredths are a penny more: a COST isn't below what is due.
    return (hundredths + WHOLE - 1) // WHOLE
