"""Promise 7: fp_place, from a letter to the line and the cell."""

import random
import unittest

from helper import (MOST, ask, ask_book, find_call, laid_slowly, line_call, open_call, place_call, plain_table, start,
                    touch_call)

NOT_THERE = [-2]
FORMS = (("the", [51]), ("ing", [52, 53, 54]), ("AB", [55, 56]), ("ABCDEFGHIJKL", [57, 58, 57, 58, 57, 58]))


def at(line, cell):
    return [0, line, cell]


def placed(text, *short_forms, width=20):
    """What is answered for each place of the text; the one behind it must be none."""
    *found, behind = ask_book(text, *[place_call(place) for place in range(len(text) + 1)],
                              table=plain_table(*short_forms), width=width)
    assert behind == NOT_THERE, behind
    return found


class EachPlace(unittest.TestCase):
    def test_letters_with_one_cell_and_with_several(self):
        self.assertEqual(placed("ABC"), [at(0, 0), at(0, 1), at(0, 2)])
        self.assertEqual(placed("aAbB"), [at(0, 0), at(0, 2), at(0, 3), at(0, 5)])

    def test_each_letter_of_an_entry(self):
        self.assertEqual(placed("the", *FORMS), [at(0, 0)] * 3)
        self.assertEqual(placed("CtheABing", *FORMS), [at(0, 0)] + [at(0, 1)] * 3 + [at(0, 2)] * 2 + [at(0, 4)] * 3)
        self.assertEqual(placed("MABCDEFGHIJKLM", *FORMS), [at(0, 0)] + [at(0, 1)] * 12 + [at(0, 7)])

    def test_each_letter_of_an_entry_at_a_lines_beginning(self):
        self.assertEqual(placed("A\nthe", *FORMS), [at(0, 0), NOT_THERE] + [at(1, 0)] * 3)
        self.assertEqual(placed("M" * 18 + " ABB", *FORMS)[19:], [at(1, 0), at(1, 0), at(1, 2)])
        self.assertEqual(placed("M" * 20 + "ing", *FORMS)[20:], [at(1, 0)] * 3)

    def test_a_blank(self):
        self.assertEqual(placed(" A  B "), [NOT_THERE, at(0, 0), NOT_THERE, NOT_THERE, at(0, 2), NOT_THERE])
        self.assertEqual(placed("   "), [NOT_THERE] * 3)
        self.assertEqual(placed("A" * 20 + " B")[19:], [at(0, 19), NOT_THERE, at(1, 0)])

    def test_a_lines_end(self):
        self.assertEqual(placed("\n"), [NOT_THERE])
        self.assertEqual(placed("\nA\n\nB\n"), [NOT_THERE, at(1, 0), NOT_THERE, NOT_THERE, at(3, 0), NOT_THERE])

    def test_a_book_of_nothing(self):
        self.assertEqual(placed(""), [])

    def test_a_word_longer_than_a_line(self):
        self.assertEqual(placed("B " + "A" * 41 + " C"),
                         [at(0, 0), NOT_THERE] + [at(1, cell) for cell in range(20)]
                         + [at(2, cell) for cell in range(20)] + [at(3, 0), NOT_THERE, at(3, 2)])
        self.assertEqual(placed("ing" * 7, *FORMS),
                         [at(0, 3 * (place // 3)) for place in range(18)] + [at(1, 0)] * 3)
        self.assertEqual(placed("a" * 12, width=21), [at(0, 2 * place) for place in range(10)] + [at(1, 0), at(1, 2)])

    def test_the_last_places_of_a_long_text(self):
        calls = [place_call(place) for place in (0, 47, 48, 4094, 4095, 4096)]
        self.assertEqual(ask_book("A" * 4096, *calls, width=48),
                         [at(0, 0), at(0, 47), at(1, 0), at(85, 14), at(85, 15), NOT_THERE])
        self.assertEqual(ask_book("\n" * 4095 + "A", place_call(4094), place_call(4095)), [NOT_THERE, at(4095, 0)])


class WhatIsRefused(unittest.TestCase):
    def test_behind_the_text(self):
        for text in ("", "A", "A B", "A\n"):
            calls = [place_call(len(text) + more) for more in (0, 1, 2, 100)]
            self.assertEqual(ask_book(text, *calls, place_call(MOST - 1), place_call(MOST)), [NOT_THERE] * 6)

    def test_no_book(self):
        self.assertEqual(ask(start(), place_call(0), place_call(MOST)), [[0], NOT_THERE, NOT_THERE])
        self.assertEqual(ask(start(), open_call([31]), place_call(0)), [[0], [-22], NOT_THERE])
        answers = ask(start(), open_call("AB"), place_call(1), start(), place_call(1), open_call("A\nB"),
                      place_call(1), place_call(2))
        self.assertEqual(answers[2:], [at(0, 1), [0], NOT_THERE, [2], NOT_THERE, at(1, 0)])

    def test_after_a_refusal_all_is_as_it_was(self):
        asked = (place_call(0), line_call(0), touch_call(0, 0), find_call("A"))
        self.assertEqual(ask_book("A B", place_call(1), place_call(3), *asked)[2:], ask_book("A B", *asked))


class AgainstASlowBook(unittest.TestCase):
    def test_small_books(self):
        chance = random.Random(71)
        parts = ("the", "ing", "AB", "ABCDEFGHIJKL", "A", "b", " ", " ", "  ", "\n", "x" * 15)
        for turn in range(40):
            width = chance.choice((20, 21, 23, 47, 48))
            text = "".join(chance.choice(parts) for turn in range(chance.randint(0, 80)))
            expected = [NOT_THERE] * len(text)
            for number, line in enumerate(laid_slowly(text, plain_table(*FORMS), width)):
                for place, cell, letters, cells in line:
                    expected[place:place + len(letters)] = [at(number, cell)] * len(letters)
            self.assertEqual(placed(text, *FORMS, width=width), expected, repr(text))


if __name__ == "__main__":
    unittest.main()
