"""The one object that the calls are made on: its table, its width and its book."""

from fingercells.books import book_of_text
from fingercells.rows import cells_of_text, text_of_cells
from fingercells.signs import BLANK, LAST_CELL, LINE_END, is_letter
from fingercells.sure import is_sure
from fingercells.tables import Table, entries_of, is_table

LEAST_WIDTH = 20
MOST_WIDTH = 48
MOST_TEXT = 4096
MOST_CELLS_READ = 24576

# What is refused is answered with these below 0.
NO_ROW = 13
NOT_VALID = 22
TOO_LONG = 28
NOT_SURE = 61


class Session:
    def __init__(self):
        self.table = None
        self.width = None
        self.book = None

    def fp_start(self, width, numbers):
        entries = entries_of(numbers)
        if not LEAST_WIDTH <= width <= MOST_WIDTH or not is_table(entries):
            return [-NOT_VALID]
        if not is_sure(entries):
            return [-NOT_SURE]
        self.table = Table(entries)
        self.width = width
        self.book = None
        return [0]

    def fp_cells(self, text):
        if not is_text(text, (BLANK,)):
            return [-NOT_VALID]
        cells = cells_of_text(text, self.table)
        return [len(cells)] + cells

    def fp_text(self, cells):
        if len(cells) > MOST_CELLS_READ or not all([cell <= LAST_CELL for cell in cells]):
            return [-NOT_VALID]
        text = text_of_cells(cells, self.table)
        if text is None:
            return [-NO_ROW]
        if len(text) > MOST_TEXT:
            return [-TOO_LONG]
        return [len(text)] + text

    def fp_open(self, text):
        if not is_text(text, (BLANK, LINE_END)):
            return [-NOT_VALID]
        self.book = book_of_text(text, self.table, self.width)
        return [len(self.book.lines)]


def is_text(text, others):
    return len(text) <= MOST_TEXT and all([is_letter(number) or number in others for number in text])
