"""The one object that the calls are made on: its table, its width and its book."""

from fingercells.books import book_of_text, cells_of_line, laid_at_cell, no_book, place_of_bytes
from fingercells.rows import cells_of_text, text_of_cells
from fingercells.signs import BLANK, EMPTY_CELL, LAST_CELL, LINE_END, is_letter
from fingercells.sure import is_sure
from fingercells.tables import Table, entries_of, is_table

LEAST_WIDTH = 20
MOST_WIDTH = 48
MOST_TEXT = 4096
MOST_CELLS_READ = 24576
MOST_BYTES_FOUND = 64

# What is refused is answered with these below 0.
NOT_THERE = 2
NO_ROW = 13
NOT_VALID = 22
TOO_LONG = 28
NOT_SURE = 61


class Session:
    def __init__(self):
        self.table = None
        self.width = None
        self.book = no_book()

    def fp_start(self, width, numbers):
        entries = entries_of(numbers)
        if not LEAST_WIDTH <= width <= MOST_WIDTH or not is_table(entries):
            return [-NOT_VALID]
        if not is_sure(entries):
            return [-NOT_SURE]
        self.table = Table(entries)
        self.width = width
        self.book = no_book()
        return [0]

    def fp_cells(self, text):
        if not is_text(text, (BLANK,)):
            return [-NOT_VALID]
        cells = cells_of_text(text, self.table)
        return [len(cells)] + cells

    def fp_text(self, cells):
        if len(cells) > MOST_CELLS_READ or not all([cell <= LAST_CELL for cell in cells]):
            return [-NOT_VALID]
        text = text_of_cells(cells, self.table)
        if text is None:
            return [-NO_ROW]
        if len(text) > MOST_TEXT:
            return [-TOO_LONG]
        return [len(text)] + text

    def fp_open(self, text):
        if not is_text(text, (BLANK, LINE_END)):
            return [-NOT_VALID]
        self.book = book_of_text(text, self.table, self.width)
        return [len(self.book.lines)]

    def fp_line(self, line):
        if line >= len(self.book.lines):
            return [-NOT_THERE]
        cells = cells_of_line(self.book.lines[line])
        # As many as the widest line has, however wide these are.
        return [len(cells)] + cells + [EMPTY_CELL] * (MOST_WIDTH - len(cells))

    def fp_touch(self, line, cell):
        if line >= len(self.book.lines):
            return [-NOT_THERE]
        laid = laid_at_cell(self.book.lines[line], cell)
        if laid is None:
            return [-NOT_THERE]
        return [laid.place]

    def fp_place(self, place):
        if place >= len(self.book.spots) or self.book.spots[place] is None:
            return [-NOT_THERE]
        return [0] + list(self.book.spots[place])

    def fp_find(self, beginning, what):
        if not 1 <= len(what) <= MOST_BYTES_FOUND:
            return [-NOT_VALID]
        place = place_of_bytes(self.book.text, what, beginning)
        if place is None:
            return [-NOT_THERE]
        return [place]


def is_text(text, others):
    return len(text) <= MOST_TEXT and all([is_letter(number) or number in others for number in text])
