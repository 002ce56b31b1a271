"""A book: a text whose words' entries are laid on lines."""

from fingercells.rows import texts_of_word
from fingercells.signs import BLANK, EMPTY_CELL, LINE_END, pieces


# An entry on its line: the place of its first letter in the book's text and
# its text, its first cell on the line and its cells.
class Laid:
    def __init__(self, place, text, cell, cells):
        self.place = place
        self.text = text
        self.cell = cell
        self.cells = cells


# Its spots tell for each place of the text the line and the cell where that
# letter's entry begins, and None where no letter stands.
class Book:
    def __init__(self, text, lines):
        self.text = text
        self.lines = lines
        self.spots = spots_of_letters(len(text), lines)


# In the place of a book that is open: each question finds nothing in it. (A
# book of nothing is another thing: it has one line.)
def no_book():
    return Book([], [])


def book_of_text(text, table, width):
    lines = []
    place = 0
    for paragraph in pieces(text, LINE_END):
        lines.extend(lines_of_paragraph(paragraph, place, table, width))
        place += len(paragraph) + 1
    return Book(text, lines)


def lines_of_paragraph(paragraph, place, table, width):
    lines = [[]]
    word_place = place
    for word in pieces(paragraph, BLANK):
        # Blanks side by side, or at an end, have pieces of nothing between them.
        if len(word) > 0:
            lay_word(word, word_place, lines, table, width)
        word_place += len(word) + 1
    return lines


def lay_word(word, place, lines, table, width):
    texts = texts_of_word(word, table)
    cell = cell_for_word(lines[-1])
    length = sum([len(table.cells_by_text[text]) for text in texts])
    if cell > 0 and cell + length > width:
        lines.append([])
        cell = 0
    letter_place = place
    for text in texts:
        cells = table.cells_by_text[text]
        # Only a word that is longer than a line comes to this.
        if cell + len(cells) > width:
            lines.append([])
            cell = 0
        lines[-1].append(Laid(letter_place, text, cell, cells))
        cell += len(cells)
        letter_place += len(text)


def cell_for_word(line):
    if len(line) == 0:
        return 0
    last = line[-1]
    return last.cell + len(last.cells) + 1


def spots_of_letters(count, lines):
    spots = [None] * count
    for number, line in enumerate(lines):
        for laid in line:
            for place in range(laid.place, laid.place + len(laid.text)):
                spots[place] = (number, laid.cell)
    return spots


def cells_of_line(line):
    cells = []
    for laid in line:
        # Only ahead of a word is there a cell that no entry has.
        cells.extend([EMPTY_CELL] * (laid.cell - len(cells)))
        cells.extend(laid.cells)
    return cells


# None if no entry's cell is there.
def laid_at_cell(line, cell):
    for laid in line:
        if laid.cell <= cell < laid.cell + len(laid.cells):
            return laid
    return None


# None if the text goes on with these nowhere from the beginning on.
def place_of_bytes(text, what, beginning):
    for place in range(beginning, len(text) - len(what) + 1):
        if text[place:place + len(what)] == what:
            return place
    return None
