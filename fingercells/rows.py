"""Rows of entries: a word cut into texts of entries, or cells into cells of entries."""

from fingercells.signs import BLANK, EMPTY_CELL, pieces
from fingercells.tables import MOST_CELLS, MOST_LETTERS


# Cuts signs into keys of known, none longer than longest. Of all such rows it
# is the one whose values have the fewest numbers, and of several of these the
# one with the longer key where they first differ; None if there is no row.
def fewest_row(signs, known, longest):
    counts = [None] * len(signs) + [0]
    steps = [0] * len(signs)
    for start in range(len(signs) - 1, -1, -1):
        for step in range(1, min(longest, len(signs) - start) + 1):
            value = known.get(signs[start:start + step])
            behind = counts[start + step]
            if value is None or behind is None:
                continue
            # The steps grow, so a row that is as good as the last one has the longer key.
            if counts[start] is None or len(value) + behind <= counts[start]:
                counts[start] = len(value) + behind
                steps[start] = step
    if counts[0] is None:
        return None
    return row_by_steps(signs, steps)


def row_by_steps(signs, steps):
    row = []
    start = 0
    while start < len(signs):
        behind = start + steps[start]
        row.append(signs[start:behind])
        start = behind
    return row


def texts_of_word(word, table):
    return fewest_row(word, table.cells_by_text, MOST_LETTERS)


def cells_of_text(text, table):
    cells = []
    for number, word in enumerate(pieces(text, BLANK)):
        if number > 0:
            cells.append(EMPTY_CELL)
        for entry_text in texts_of_word(word, table):
            cells.extend(table.cells_by_text[entry_text])
    return cells


# None if what stands somewhere between the empty cells is no row of entries.
def text_of_cells(cells, table):
    text = []
    for number, piece in enumerate(pieces(cells, EMPTY_CELL)):
        if number > 0:
            text.append(BLANK)
        # The table is sure, so there is one row at most: to be the fewest asks nothing of it.
        row = fewest_row(piece, table.text_by_cells, MOST_CELLS)
        if row is None:
            return None
        for entry_cells in row:
            text.extend(table.text_by_cells[entry_cells])
    return text
