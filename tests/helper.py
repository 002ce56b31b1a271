"""What the tests share: a plain table, lists of calls with their answers apart, and books laid slowly."""

import re

from fingercells.pages import answers

LETTERS = range(33, 127)
MOST = 4294967295


def plain_cells(letter):
    """'!' to 'R' have one cell, 1 to 50; 'S' to '~' have two, the first one 63."""
    return [letter - 32] if letter <= 82 else [63, letter - 82]


def plain_table(*short_forms):
    """The 94 letters, none of which has a cell of 51 to 62, and these short forms."""
    return [([letter], plain_cells(letter)) for letter in LETTERS] + [
        (list(numbers_of(text)), list(cells)) for text, cells in short_forms]


def numbers_of(text):
    return list(text.encode("latin-1")) if isinstance(text, str) else list(text)


def flat(entries):
    numbers = []
    for text, cells in entries:
        numbers += [len(text), *text, len(cells), *cells]
    return numbers


def start(entries=None, width=20):
    numbers = flat(plain_table() if entries is None else entries)
    return [0, width, len(numbers), *numbers]


def cells_call(text):
    numbers = numbers_of(text)
    return [1, len(numbers), *numbers]


def text_call(cells):
    return [2, len(cells), *cells]


def open_call(text):
    numbers = numbers_of(text)
    return [3, len(numbers), *numbers]


def line_call(line):
    return [4, line]


def touch_call(line, cell):
    return [5, line, cell]


def place_call(place):
    return [6, place]


def find_call(what, beginning=0):
    numbers = numbers_of(what)
    return [7, beginning, len(numbers), *numbers]


def ask(*calls):
    """The answers of these calls on one new object, each one a list."""
    asked = [number for call in calls for number in call]
    assert len(asked) <= 30000 and 1 <= len(calls) <= 1000
    return apart(answers(asked), len(calls))


def apart(answered, count):
    found = []
    at = 0
    while at < len(answered):
        found.append(answered[at + 1:at + 1 + answered[at]])
        assert len(found[-1]) == answered[at] > 0
        at += 1 + answered[at]
    assert len(found) == count
    return found


def ask_book(text, *calls, table=None, width=20):
    """What these calls answer while this book is open."""
    opened, *rest = ask(start(table, width), open_call(text), *calls)[1:]
    assert opened[0] > 0 and len(opened) == 1
    return rest


def rows_of(word, entries):
    """All rows of entries whose texts are the word: the slow way, for comparison."""
    if not word:
        return [[]]
    found = []
    for text, cells in entries:
        if list(word[:len(text)]) == list(text):
            found += [[(text, cells)] + row for row in rows_of(word[len(text):], entries)]
    return found


def worth(row):
    """Of two rows of one word the document asks for the one that is worth more."""
    return (-sum(len(cells) for text, cells in row), [len(text) for text, cells in row])


def best_row(word, entries):
    """The row that the document asks for: whole rows compared, from the word's end on."""
    best = [[]]
    for begin in reversed(range(len(word))):
        rows = [[(text, cells)] + best[-len(text)] for text, cells in entries
                if word[begin:begin + len(text)] == list(text)]
        best.append(max(rows, key=worth))
    return best[-1]


def laid_slowly(text, table, width):
    """Of each line of the book its entries: place of the first letter, first cell, letters, cells."""
    lines = []
    begin = 0
    for paragraph in text.split("\n"):
        lines.append([])
        used = 0
        for word in re.finditer("[^ ]+", paragraph):
            row = best_row(numbers_of(word.group()), table)
            if used and used + 1 + sum(len(cells) for letters, cells in row) > width:
                lines.append([])
                used = 0
            cell = used + 1 if used else 0
            place = begin + word.start()
            for letters, cells in row:
                if cell + len(cells) > width:
                    lines.append([])
                    cell = 0
                lines[-1].append((place, cell, list(letters), list(cells)))
                place += len(letters)
                cell += len(cells)
            used = cell
        begin += len(paragraph) + 1
    return lines


def cells_slowly(line):
    """The cells of a line that was laid slowly, with the empty ones between its words."""
    cells = {cell + number: sign for place, cell, letters, signs in line for number, sign in enumerate(signs)}
    return [cells.get(number, 0) for number in range(max(cells, default=-1) + 1)]
