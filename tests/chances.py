"""BOOKS as a dice told them, made once for all tests, and all that the words of DOC.md say of them."""

from tests.walks import HOUSE, chance_book, words_of

BOOKS = tuple(chance_book(HOUSE, seed) for seed in range(120))
WORDS = tuple(words_of(HOUSE, pages) for pages in BOOKS)
EACH = tuple(zip(BOOKS, WORDS))
