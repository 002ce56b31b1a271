"""A table of short forms: its entries, each a pair of a text and cells."""

from fingercells.signs import EMPTY_CELL, FIRST_LETTER, LAST_CELL, LAST_LETTER, is_letter

LEAST_ENTRIES = 94
MOST_ENTRIES = 512
MOST_LETTERS = 12
MOST_CELLS = 6


class Table:
    def __init__(self, entries):
        self.cells_by_text = {}
        self.text_by_cells = {}
        for text, cells in entries:
            self.cells_by_text[text] = cells
            self.text_by_cells[cells] = text


def entries_of(numbers):
    entries = []
    at = 0
    while at < len(numbers):
        text_end = at + 1 + numbers[at]
        cells_end = text_end + 1 + numbers[text_end]
        text = tuple(numbers[at + 1:text_end])
        cells = tuple(numbers[text_end + 1:cells_end])
        entries.append((text, cells))
        at = cells_end
    return entries


def is_entry(text, cells):
    if not 1 <= len(text) <= MOST_LETTERS or not 1 <= len(cells) <= MOST_CELLS:
        return False
    if not all([is_letter(letter) for letter in text]):
        return False
    return all([EMPTY_CELL < cell <= LAST_CELL for cell in cells])


def is_table(entries):
    if not LEAST_ENTRIES <= len(entries) <= MOST_ENTRIES:
        return False
    seen = {}
    for text, cells in entries:
        if not is_entry(text, cells) or text in seen:
            return False
        seen[text] = True
    return all([(letter,) in seen for letter in range(FIRST_LETTER, LAST_LETTER + 1)])
