"""What the tests share: a plain table, and lists of calls with their answers apart."""

from fingercells.pages import answers
from fingercells.session import Session

LETTERS = range(33, 127)


def plain_cells(letter):
    """'!' to 'R' have one cell, 1 to 50; 'S' to '~' have two, the first one 63."""
    return [letter - 32] if letter <= 82 else [63, letter - 82]


def plain_table(*short_forms):
    """The 94 letters, none of which has a cell of 51 to 62, and these short forms."""
    return [([letter], plain_cells(letter)) for letter in LETTERS] + [
        (list(numbers_of(text)), list(cells)) for text, cells in short_forms]


def numbers_of(text):
    return list(text.encode("latin-1")) if isinstance(text, str) else list(text)


def flat(entries):
    numbers = []
    for text, cells in entries:
        numbers += [len(text), *text, len(cells), *cells]
    return numbers


def start(entries=None, width=20):
    numbers = flat(plain_table() if entries is None else entries)
    return [0, width, len(numbers), *numbers]


def cells_call(text):
    numbers = numbers_of(text)
    return [1, len(numbers), *numbers]


def text_call(cells):
    return [2, len(cells), *cells]


def open_call(text):
    numbers = numbers_of(text)
    return [3, len(numbers), *numbers]


def ask(*calls):
    """The answers of these calls on one new object, each one a list."""
    asked = [number for call in calls for number in call]
    assert len(asked) <= 30000 and 1 <= len(calls) <= 1000
    return apart(answers(asked), len(calls))


def apart(answered, count):
    found = []
    at = 0
    while at < len(answered):
        found.append(answered[at + 1:at + 1 + answered[at]])
        assert len(found[-1]) == answered[at] > 0
        at += 1 + answered[at]
    assert len(found) == count
    return found


def started(entries=None, width=20):
    """The object itself, for what no call tells yet."""
    session = Session()
    assert session.fp_start(width, flat(plain_table() if entries is None else entries)) == [0]
    return session


def rows_of(word, entries):
    """All rows of entries whose texts are the word: the slow way, for comparison."""
    if not word:
        return [[]]
    found = []
    for text, cells in entries:
        if list(word[:len(text)]) == list(text):
            found += [[(text, cells)] + row for row in rows_of(word[len(text):], entries)]
    return found


def best_row(word, entries):
    """Of all rows the one that the document asks for."""
    def worth(row):
        return (-sum(len(cells) for text, cells in row), [len(text) for text, cells in row])
    return max(rows_of(word, entries), key=worth)
