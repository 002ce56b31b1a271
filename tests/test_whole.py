"""Over the whole program: whole books with several tables, the book that stays, and all calls mixed."""

import random
import unittest

from helper import (LETTERS, MOST, ask, best_row, cells_call, cells_slowly, find_call, laid_slowly, line_call,
                    numbers_of, open_call, place_call, plain_cells, plain_table, rows_of, start, text_call, touch_call)

FORMS = (("the", [51]), ("ing", [52, 53, 54]), ("AB", [55, 56]), ("ABCDEFGHIJKL", [57, 58, 57, 58, 57, 58]))


def backward_table():
    """Cells that begin like others: a letter is only told by what stands behind it."""
    return [([letter], plain_cells(letter)[::-1]) for letter in LETTERS] + [
        ([*b"the"], [51]), ([*b"th"], [51, 52]), ([*b"ing"], [52, 52]), ([*b"ABA"], [53, 54, 55, 63])]


def wide_table():
    """Six cells for each letter, and twelve letters for one cell."""
    table = [([letter], [1 + letter // 12, 1 + letter % 12, 60, 60, 60, 60]) for letter in LETTERS]
    return table + [([*b"ABCDEFGHIJKL"], [61]), ([*b"the"], [62, 1, 2, 3])]


def full_table():
    """512 entries, of 1, 2 and 3 letters."""
    pairs = [bytes((first, second)) for first in b"etaoinsABC" for second in b"etaoinsrhlABC"]
    triples = [first + bytes((third,)) for first in pairs for third in b"ghe"]
    forms = [(list(text), [51 + number // 60, 1 + number % 60]) for number, text in enumerate(pairs + triples)]
    return (plain_table() + forms)[:512]


TABLES = (plain_table(), plain_table(*FORMS), backward_table(), wide_table(), full_table())


def some_text(chance, table, count):
    """Words of the table's texts, many blanks and lines' ends: at most so many bytes."""
    often = [bytes(text).decode() for text, cells in table[94:]] or ["A", "b"]
    parts = []
    while sum(map(len, parts)) < count:
        kind = chance.random()
        if kind < 0.5:
            parts.append(chance.choice(often))
        elif kind < 0.65:
            parts.append(chr(chance.choice(LETTERS)))
        elif kind < 0.9:
            parts.append(" " * chance.choice((1, 1, 1, 2, 5)))
        elif kind < 0.95:
            parts.append("\n" * chance.choice((1, 1, 2)))
        else:
            parts.append("~" * chance.randint(1, 60))
    return "".join(parts)[:count]


def ask_at_length(text, calls, table, width):
    """The answers of any number of calls about one book, in lists as long as may be."""
    found = []
    for begin in range(0, len(calls), 998):
        found += ask(start(table, width), open_call(text), *calls[begin:begin + 998])[2:]
    return found


class WholeBook:
    """A book and all that can be asked about it."""

    def __init__(self, text, table, width):
        count = ask(start(table, width), open_call(text))[1][0]
        lines = ask_at_length(text, [line_call(line) for line in range(count)], table, width)
        touches = ask_at_length(text, [touch_call(line, cell) for line in range(count) for cell in range(48)],
                                table, width)
        self.text, self.table, self.width = text, table, width
        self.lines = [(answer[0], answer[1:]) for answer in lines]
        self.touched = [[answer[0] for answer in touches[48 * line:48 * line + 48]] for line in range(count)]
        self.places = ask_at_length(text, [place_call(place) for place in range(len(text))], table, width)


class WholeBooks(unittest.TestCase):
    def test_what_holds(self):
        chance = random.Random(91)
        for table in TABLES:
            for count, width in ((4096, chance.randint(21, 47)), (500, 20), (500, 48), (60, 20), (0, 48)):
                with self.subTest(entries=len(table), count=count, width=width):
                    book = WholeBook(some_text(chance, table, count), table, width)
                    self.check_lines(book)
                    self.check_nothing_is_left_out(book)
                    self.check_letters_are_found(book)
                    self.check_cells_are_touched(book)

    def check_lines(self, book):
        for count, cells in book.lines:
            self.assertEqual(len(cells), 48)
            self.assertLessEqual(count, book.width)
            self.assertEqual(cells[count:], [0] * (48 - count))
            # An empty cell ahead and behind: two side by side would be one at an end, too.
            walled = [0, *cells[:count], 0] if count else [1]
            self.assertNotIn((0, 0), list(zip(walled, walled[1:])))

    def check_nothing_is_left_out(self, book):
        letters = [number for number in numbers_of(book.text) if number > 32]
        cells = [cell for count, line in book.lines for cell in line if cell]
        self.assertEqual(ask(start(book.table), text_call(cells))[1], [len(letters), *letters])

    def check_letters_are_found(self, book):
        for place, (sign, answer) in enumerate(zip(book.text, book.places)):
            if sign in " \n":
                self.assertEqual(answer, [-2])
                continue
            taken, line, cell = answer
            first = book.touched[line][cell]
            self.assertEqual(taken, 0)
            self.assertLessEqual(first, place)
            self.assertLessEqual(place - first, 11)
            self.assertEqual(book.places[first], answer)

    def check_cells_are_touched(self, book):
        letters = {}
        for sign, answer in zip(book.text, book.places):
            letters.setdefault(tuple(answer), []).append(ord(sign))
        for line, (count, cells) in enumerate(book.lines):
            entries = {}
            for cell, first in enumerate(book.touched[line]):
                self.assertEqual(first == -2, cells[cell] == 0)
                if first >= 0:
                    entries.setdefault(first, []).append(cell)
            for first, on_line in entries.items():
                self.assertEqual(book.places[first], [0, line, on_line[0]])
                self.assertIn((letters[0, line, on_line[0]], [cells[cell] for cell in on_line]), book.table)

    def test_back_again(self):
        chance = random.Random(92)
        for table in TABLES:
            for count in (0, 1, 30, 1000, 4096):
                text = some_text(chance, table, count).replace("\n", " ")
                cells = ask(start(table), cells_call(text))[1][1:]
                self.assertEqual(ask(start(table), text_call(cells))[1], [len(text), *numbers_of(text)])

    def test_a_books_lines_have_its_words_cells(self):
        chance = random.Random(93)
        for table in TABLES:
            text = some_text(chance, table, 800)
            cells = ask(start(table), cells_call(text.replace("\n", " ")))[1][1:]
            lines = ask(start(table, 40), open_call(text), *[line_call(line) for line in range(200)])[2:]
            on_lines = [cell for line in lines for cell in line[1:] if cell]
            self.assertEqual(on_lines, [cell for cell in cells if cell])


class TheBookThatIsOpen(unittest.TestCase):
    ASKED = (line_call(0), line_call(1), line_call(2), touch_call(0, 1), touch_call(1, 0), touch_call(0, 2),
             place_call(0), place_call(3), place_call(2), find_call("B"), find_call("the", 1), find_call(""))
    FIRST, SECOND = "AB\nthe", "xthe"

    def about(self, text, *between):
        """The last answers, about what is open after these calls."""
        calls = (start(plain_table(*FORMS), 21), open_call(text), *between, *self.ASKED)
        return ask(*calls)[-len(self.ASKED):]

    def test_the_new_book_is_taken(self):
        for first, second in ((self.FIRST, self.SECOND), (self.SECOND, self.FIRST), (self.FIRST, "")):
            self.assertNotEqual(self.about(first), self.about(second))
            self.assertEqual(self.about(first, open_call(second)), self.about(second))
            self.assertEqual(self.about(first, open_call(second), open_call(first)), self.about(first))

    def test_what_was_of_the_old_book_alone_is_gone(self):
        answers = ask(start(), open_call("A\nB\nC D"), open_call("E"), line_call(1), touch_call(1, 0), touch_call(0, 2),
                      place_call(2), place_call(6), find_call("A"), find_call("\n"))
        self.assertEqual(answers[3:], [[-2]] * 7)

    def test_a_new_book_of_nothing(self):
        answers = ask(start(), open_call("A"), open_call(""), line_call(0), touch_call(0, 0), place_call(0),
                      find_call("A"))
        self.assertEqual(answers[2:], [[1], [0] * 49, [-2], [-2], [-2]])

    def test_refused_calls_leave_it(self):
        refused = (open_call("A" * 4097), open_call("A\t"), open_call([127]), start(plain_table()[1:]),
                   start(plain_table(), 19), start(plain_table(), 49), start(plain_table(("AB", [33])), 30), start([]))
        for text in (self.FIRST, self.SECOND, ""):
            for call in refused:
                self.assertEqual(self.about(text, call), self.about(text))
            self.assertEqual(self.about(text, *refused), self.about(text))

    def test_cells_and_texts_leave_it(self):
        between = (cells_call("the AB"), cells_call(""), cells_call("A\n"), cells_call("A" * 4097),
                   text_call([51, 0, 33]), text_call([]), text_call([64]), text_call([62]), text_call([0] * 4097))
        for text in (self.FIRST, self.SECOND):
            for call in between:
                self.assertEqual(self.about(text, call), self.about(text))

    def test_what_is_asked_leaves_it(self):
        asked = (line_call(1), line_call(MOST), touch_call(1, 0), touch_call(MOST, 0), place_call(1), place_call(MOST),
                 find_call("B", 1), find_call("", 9), find_call("C"))
        for call in asked:
            self.assertEqual(self.about(self.FIRST, call), self.about(self.FIRST))
        answers = ask(start(plain_table(*FORMS)), open_call("the"), *asked, cells_call("theA"), text_call([51]))
        self.assertEqual(answers[-2:], [[2, 51, 33], [3, *b"the"]])

    def test_a_new_start_closes_it_and_a_new_book_has_the_new_table_and_width(self):
        answers = ask(start(plain_table(*FORMS)), open_call("the" * 21), start(plain_table(("the", [60, 61])), 48),
                      *self.ASKED, open_call("the" * 21), line_call(0), touch_call(0, 3), place_call(71))
        closed = answers[3:3 + len(self.ASKED)]
        self.assertEqual(closed, [[-2]] * (len(self.ASKED) - 1) + [[-22]])
        self.assertEqual(answers[-4:], [[1], [42] + [60, 61] * 21 + [0] * 6, [3], [-2]])


class Slow:
    """One object that answers by slow ways."""

    def __init__(self, starts):
        self.starts = starts
        self.table, self.width = None, None
        self.text, self.lines = "", []

    def answer(self, call):
        kinds = (self.start, self.cells, self.read, self.open, self.line, self.touch, self.place, self.find)
        return kinds[call[0]](call[1:])

    def start(self, numbers):
        entries, width, answer = next(found for found in self.starts if start(found[0], found[1])[1:] == numbers)
        if answer == 0:
            self.table, self.width = entries, width
            self.text, self.lines = "", []
        return [answer]

    def cells(self, numbers):
        text = numbers[1:]
        if len(text) > 4096 or any(not 32 <= number <= 126 for number in text):
            return [-22]
        cells = [0]
        for word in bytes(text).decode().split(" "):
            cells += [cell for part in best_row(numbers_of(word), self.table) for cell in part[1]] + [0]
        return [len(cells) - 2, *cells[1:-1]]

    def read(self, numbers):
        cells = numbers[1:]
        if len(cells) > 24576 or max(cells, default=0) > 63:
            return [-22]
        turned = [(signs, text) for text, signs in self.table]
        words = [rows_of(list(piece), turned) for piece in bytes(cells).split(b"\0")]
        if not all(words):
            return [-13]
        text = b" ".join(b"".join(bytes(letters) for signs, letters in rows[0]) for rows in words)
        return [len(text), *text] if len(text) <= 4096 else [-28]

    def open(self, numbers):
        text = numbers[1:]
        if len(text) > 4096 or any(number != 10 and not 32 <= number <= 126 for number in text):
            return [-22]
        self.text = bytes(text).decode()
        self.lines = laid_slowly(self.text, self.table, self.width)
        return [len(self.lines)]

    def line(self, numbers):
        for cells in map(cells_slowly, self.lines[numbers[0]:][:1]):
            return [len(cells), *cells] + [0] * (48 - len(cells))
        return [-2]

    def touch(self, numbers):
        for line in self.lines[numbers[0]:][:1]:
            for place, cell, letters, cells in line:
                if numbers[1] in range(cell, cell + len(cells)):
                    return [place]
        return [-2]

    def place(self, numbers):
        for number, line in enumerate(self.lines):
            for place, cell, letters, cells in line:
                if numbers[0] in range(place, place + len(letters)):
                    return [0, number, cell]
        return [-2]

    def find(self, numbers):
        beginning, what = numbers[0], bytes(numbers[2:])
        if not 1 <= len(what) <= 64:
            return [-22]
        place = self.text.encode().find(what, beginning)
        return [place] if place >= 0 else [-2]


class AllCallsMixed(unittest.TestCase):
    STARTS = ((plain_table(), 20, 0), (plain_table(*FORMS), 33, 0), (backward_table(), 20, 0),
              (wide_table(), 48, 0), (plain_table()[1:], 20, -22), (plain_table(), 49, -22),
              (plain_table(("AB", [33])), 20, -61), ([], 20, -22))

    def small_number(self, chance):
        return chance.choice((0, 0, 1, 1, 2, 3, 5, 8, 13, 21, 34, MOST))

    def some_bytes(self, chance, table, most):
        wrong = chance.choice((0, 9, 31, 127, 255))
        text = numbers_of(some_text(chance, table, chance.randint(0, most)))
        return text + [wrong] if chance.random() < 0.05 else text

    def some_call(self, chance, table):
        kind = chance.randint(1, 7)
        if kind == 1:
            return cells_call([32 if number == 10 else number for number in self.some_bytes(chance, table, 12)])
        if kind == 2:
            cells = []
            for turn in range(chance.randint(0, 5)):
                cells += chance.choice(table)[1] if chance.random() < 0.8 else [0]
            return text_call(cells + [chance.randint(0, 70)] if chance.random() < 0.2 else cells)
        if kind == 3:
            return open_call(self.some_bytes(chance, table, 60))
        if kind == 4:
            return line_call(self.small_number(chance))
        if kind == 5:
            return touch_call(self.small_number(chance), self.small_number(chance))
        if kind == 6:
            return place_call(self.small_number(chance))
        return find_call(self.some_bytes(chance, table, chance.choice((2, 3, 70))), self.small_number(chance))

    def check(self, calls):
        slow = Slow(self.STARTS)
        for number, (call, answer) in enumerate(zip(calls, ask(*calls))):
            self.assertEqual(answer, slow.answer(call), (number, call))

    def some_calls(self, chance, count, starts):
        """So many calls, with so many starts among them, the first ones of all sorts until one is taken."""
        refused = [found for found in self.STARTS if found[2] < 0]
        calls = [start(*found[:2]) for found in chance.sample(refused, chance.randint(0, 2))]
        table = None
        again = chance.sample(range(len(calls) + 1, count), starts)
        while len(calls) < count:
            if table is None or len(calls) in again:
                entries, width, answer = chance.choice(self.STARTS[:4] if table is None else self.STARTS)
                table = entries if answer == 0 else table
                calls.append(start(entries, width))
            else:
                calls.append(self.some_call(chance, table))
        return calls

    def test_many_lists(self):
        chance = random.Random(94)
        for turn in range(25):
            self.check(self.some_calls(chance, 120, 6))

    def test_a_thousand_calls(self):
        calls = self.some_calls(random.Random(95), 1000, 5)
        self.assertEqual(len(calls), 1000)
        self.check(calls)

    def test_thirty_thousand_numbers(self):
        chance = random.Random(96)
        table = backward_table()
        calls = [start(table, 20)]
        while sum(map(len, calls)) < 25000:
            calls += [open_call(some_text(chance, table, 1500)), cells_call("ABA the" * chance.randint(0, 50)),
                      *[self.some_call(chance, table) for turn in range(20)]]
        calls.append(find_call("A" * 60))
        while sum(map(len, calls)) < 30000 - 4098:
            calls.append(cells_call("~" * 1000))
        calls.append(cells_call(("~ " * 2048)[:30000 - 2 - sum(map(len, calls))]))
        self.assertEqual(sum(map(len, calls)), 30000)
        self.assertLessEqual(len(calls), 1000)
        self.check(calls)


if __name__ == "__main__":
    unittest.main()
