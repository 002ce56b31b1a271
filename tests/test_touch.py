"""Promise 6: fp_touch, from a cell back to the letter."""

import random
import unittest

from helper import (MOST, ask, ask_book, find_call, laid_slowly, line_call, open_call, place_call, plain_table, start,
                    touch_call)

NOT_THERE = -2
FORMS = (("the", [51]), ("ing", [52, 53, 54]), ("AB", [55, 56]), ("ABCDEFGHIJKL", [57, 58, 57, 58, 57, 58]))


def touched(text, *short_forms, lines=1, cells=49, width=20):
    """Line by line what is answered for each of so many cells."""
    calls = [touch_call(line, cell) for line in range(lines) for cell in range(cells)]
    answers = ask_book(text, *calls, table=plain_table(*short_forms), width=width)
    assert all(len(answer) == 1 for answer in answers)
    numbers = [answer[0] for answer in answers]
    return [numbers[line * cells:line * cells + cells] for line in range(lines)]


def filled(numbers, cells=49):
    """These, and no entry's cell behind them."""
    return list(numbers) + [NOT_THERE] * (cells - len(numbers))


class EachCell(unittest.TestCase):
    def test_each_cell_of_an_entry_with_several_cells(self):
        self.assertEqual(touched("a"), [filled([0, 0])])
        self.assertEqual(touched("Aab"), [filled([0, 1, 1, 2, 2])])
        self.assertEqual(touched("ing", *FORMS), [filled([0, 0, 0])])
        self.assertEqual(touched("AingaB", *FORMS), [filled([0, 1, 1, 1, 4, 4, 5])])

    def test_an_entry_with_several_letters(self):
        self.assertEqual(touched("thethe", *FORMS), [filled([0, 3])])
        self.assertEqual(touched("CtheABthe", *FORMS), [filled([0, 1, 4, 4, 6])])
        self.assertEqual(touched("ABCDEFGHIJKLM", *FORMS), [filled([0] * 6 + [12])])
        self.assertEqual(touched("MABCDEFGHIJKLM", *FORMS), [filled([0] + [1] * 6 + [13])])

    def test_an_empty_cell_between_words(self):
        self.assertEqual(touched("A B"), [filled([0, NOT_THERE, 2])])
        self.assertEqual(touched("a b c"), [filled([0, 0, NOT_THERE, 2, 2, NOT_THERE, 4, 4])])
        self.assertEqual(touched("the ing", *FORMS), [filled([0, NOT_THERE, 4, 4, 4])])

    def test_places_are_counted_with_all_blanks_and_lines_ends(self):
        self.assertEqual(touched("   A    B  "), [filled([3, NOT_THERE, 8])])
        self.assertEqual(touched("\n  A  \n\nB", lines=4), [filled([]), filled([3]), filled([]), filled([8])])

    def test_behind_the_lines_end(self):
        for width in (20, 21, 48):
            self.assertEqual(touched("A" * width, cells=60, width=width), [filled(range(width), 60)])
            self.assertEqual(touched("A" * (width - 1) + " B", lines=2, cells=60, width=width),
                             [filled(range(width - 1), 60), filled([width], 60)])
        self.assertEqual(touched("A\nBB", lines=2), [filled([0]), filled([2, 3])])

    def test_on_a_line_without_cells(self):
        for text in ("", "   ", "\n"):
            self.assertEqual(touched(text), [filled([])])

    def test_the_line_behind_a_full_one(self):
        self.assertEqual(touched("A" * 20 + " BC", lines=2), [filled(range(20)), filled([21, 22])])

    def test_a_word_over_several_lines(self):
        self.assertEqual(touched("B " + "A" * 41 + " C", lines=4),
                         [filled([0]), filled(range(2, 22)), filled(range(22, 42)), filled([42, NOT_THERE, 44])])
        self.assertEqual(touched("ing" * 7, *FORMS, lines=2),
                         [filled([3 * (cell // 3) for cell in range(18)]), filled([18, 18, 18])])
        twelve = FORMS[3][0]
        self.assertEqual(touched(twelve * 4 + "M", *FORMS, lines=2),
                         [filled([12 * (cell // 6) for cell in range(18)]), filled([36] * 6 + [48])])


class WhatIsRefused(unittest.TestCase):
    def test_no_such_line(self):
        for text, count in (("A", 1), ("A\nB", 2), ("", 1), ("A" * 41, 3)):
            calls = [touch_call(line, 0) for line in (count, count + 1, 4097, MOST - 1, MOST)]
            self.assertEqual(ask_book(text, *calls), [[NOT_THERE]] * 5)

    def test_no_such_cell(self):
        calls = [touch_call(0, cell) for cell in (1, 19, 20, 47, 48, 49, 255, MOST - 1, MOST)]
        self.assertEqual(ask_book("A", *calls), [[NOT_THERE]] * 9)

    def test_the_largest_numbers(self):
        self.assertEqual(ask_book("A", touch_call(MOST, MOST), touch_call(MOST, 0), touch_call(0, MOST),
                                  touch_call(0, 0)), [[NOT_THERE]] * 3 + [[0]])

    def test_the_line_stands_ahead_of_the_cell(self):
        self.assertEqual(ask_book("A B C", touch_call(0, 2), touch_call(2, 0)), [[2], [NOT_THERE]])
        self.assertEqual(ask_book("A\nB\nC", touch_call(0, 2), touch_call(2, 0)), [[NOT_THERE], [4]])

    def test_no_book(self):
        self.assertEqual(ask(start(), touch_call(0, 0), touch_call(MOST, MOST)), [[0], [-2], [-2]])
        self.assertEqual(ask(start(), open_call([31]), touch_call(0, 0)), [[0], [-22], [-2]])
        answers = ask(start(), open_call("A"), touch_call(0, 0), start(), touch_call(0, 0), open_call(" B"),
                      touch_call(0, 0))
        self.assertEqual(answers[2:], [[0], [0], [-2], [1], [1]])

    def test_after_a_refusal_all_is_as_it_was(self):
        asked = (touch_call(0, 0), line_call(0), place_call(0), find_call("A"))
        self.assertEqual(ask_book("A B", touch_call(0, 1), touch_call(1, 0), *asked)[2:], ask_book("A B", *asked))


class AgainstASlowBook(unittest.TestCase):
    def test_small_books(self):
        chance = random.Random(61)
        parts = ("the", "ing", "AB", "ABCDEFGHIJKL", "A", "b", " ", " ", "  ", "\n", "x" * 12)
        for turn in range(40):
            width = chance.choice((20, 21, 23, 47, 48))
            text = "".join(chance.choice(parts) for turn in range(chance.randint(0, 50)))
            lines = laid_slowly(text, plain_table(*FORMS), width)
            expected = []
            for line in lines:
                on_line = [NOT_THERE] * 50
                for place, cell, letters, cells in line:
                    on_line[cell:cell + len(cells)] = [place] * len(cells)
                expected.append(on_line)
            count = min(len(lines), 19)
            self.assertEqual(touched(text, *FORMS, lines=count, cells=50, width=width), expected[:count], repr(text))


if __name__ == "__main__":
    unittest.main()
