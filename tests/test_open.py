"""Promise 4: fp_open, how many lines a book has, and the book that is kept."""

import random
import unittest

from helper import ask, find_call, laid_slowly, line_call, open_call, plain_table, start

NOT_VALID = [-22]


def lines_of(text, width=20, *short_forms):
    """What fp_open answers, the number alone."""
    answer = ask(start(plain_table(*short_forms), width), open_call(text))[1]
    assert len(answer) == 1
    return answer[0]


def fewest_lines(counts, width):
    """Of all ways to lay words in order, none longer than a line."""
    if not counts:
        return 0
    fewest = len(counts)
    for first in range(1, len(counts) + 1):
        if sum(counts[:first]) + first - 1 <= width:
            fewest = min(fewest, 1 + fewest_lines(counts[first:], width))
    return fewest


class WhatIsRefused(unittest.TestCase):
    def test_how_many_bytes(self):
        self.assertEqual(lines_of("A" * 4096), 205)
        self.assertEqual(lines_of("\n" * 4096), 4097)
        self.assertEqual(lines_of(" " * 4096), 1)
        for text in ("A" * 4097, "\n" * 4097, " " * 4097, "A" * 5000):
            self.assertEqual(lines_of(text), -22)

    def test_what_is_no_letter_no_blank_and_no_lines_end(self):
        for number in (0, 1, 9, 11, 13, 31, 127, 128, 160, 255):
            for text in ([number], [number, 65], [65, number], [65, 10, number, 32, 65]):
                self.assertEqual(lines_of(text), -22)
        self.assertEqual(lines_of([33, 32, 126, 10, 65]), 2)

    def test_the_open_book_stays_as_it_was(self):
        asked = (line_call(0), line_call(1), line_call(2), find_call("A\nB"))
        answers = ask(start(), open_call("A\nB"), *asked)[2:]
        self.assertEqual([answer[0] for answer in answers], [1, 1, -2, 0])
        for text in ("A" * 4097, [65, 31], [127]):
            self.assertEqual(ask(start(), open_call("A\nB"), open_call(text), *asked)[2:], [NOT_VALID, *answers])

    def test_no_book_is_open_after_a_refusal_alone(self):
        for text in ([31], "A" * 4097):
            answers = ask(start(), open_call(text), line_call(0), find_call("A"))
            self.assertEqual(answers[1:], [NOT_VALID, [-2], [-2]])

    def test_another_book_takes_its_place(self):
        answers = ask(start(), open_call("A\nB"), open_call("C"), line_call(0), line_call(1), find_call("A"))
        self.assertEqual(answers[1:], [[2], [1], [1, 35] + [0] * 47, [-2], [-2]])

    def test_books_one_behind_another(self):
        answers = ask(start(), open_call("A\nB"), open_call("\t"), open_call("A\nB\nC"), open_call(""))
        self.assertEqual(answers, [[0], [2], NOT_VALID, [3], [1]])


class Paragraphs(unittest.TestCase):
    def test_a_text_of_nothing(self):
        self.assertEqual(lines_of(""), 1)

    def test_each_paragraph_begins_a_line(self):
        self.assertEqual(lines_of("A"), 1)
        self.assertEqual(lines_of("A\nB"), 2)
        self.assertEqual(lines_of("A B\nC D\nE"), 3)

    def test_empty_paragraphs(self):
        self.assertEqual(lines_of("\n"), 2)
        self.assertEqual(lines_of("\n\n\n"), 4)
        self.assertEqual(lines_of("\nA"), 2)
        self.assertEqual(lines_of("\n\nA"), 3)
        self.assertEqual(lines_of("A\n"), 2)
        self.assertEqual(lines_of("A\n\n"), 3)
        self.assertEqual(lines_of("A\n\nB"), 3)
        self.assertEqual(lines_of("\n\nA\n\n\nB\n\n"), 8)

    def test_paragraphs_of_blanks(self):
        self.assertEqual(lines_of(" "), 1)
        self.assertEqual(lines_of("   \n "), 2)
        self.assertEqual(lines_of("A\n   \nB"), 3)

    def test_a_full_line_and_a_lines_end(self):
        self.assertEqual(lines_of("A" * 20 + "\n"), 2)
        self.assertEqual(lines_of("A" * 20 + "\nB"), 2)
        self.assertEqual(lines_of("A" * 21 + "\n\nB"), 4)


class Words(unittest.TestCase):
    def test_a_word_that_just_fits(self):
        for width in (20, 21, 37, 47, 48):
            self.assertEqual(lines_of("A" * width, width), 1)
            self.assertEqual(lines_of("A" * (width - 2) + " B", width), 1)
            self.assertEqual(lines_of("A" * 10 + " " + "B" * (width - 11), width), 1)
            self.assertEqual(lines_of("A B " + "C" * (width - 4), width), 1)

    def test_a_word_that_is_a_cell_too_long(self):
        for width in (20, 21, 37, 47, 48):
            self.assertEqual(lines_of("A" * (width - 1) + " B", width), 2)
            self.assertEqual(lines_of("A" * width + " B", width), 2)
            self.assertEqual(lines_of("A" * 10 + " " + "B" * (width - 10), width), 2)
            self.assertEqual(lines_of("A B " + "C" * (width - 3), width), 2)

    def test_a_new_line_begins_without_an_empty_cell(self):
        self.assertEqual(lines_of("A" * 20 + " " + "B" * 20), 2)
        self.assertEqual(lines_of(" ".join(["A" * 20] * 5)), 5)
        self.assertEqual(lines_of(" ".join(["A" * 6] * 9)), 3)
        self.assertEqual(lines_of(" ".join(["A" * 6] * 8), 26), 3)
        self.assertEqual(lines_of(" ".join(["A" * 6] * 8), 27), 2)

    def test_several_blanks_are_as_one(self):
        self.assertEqual(lines_of("A" * 10 + "     " + "B" * 9), 1)
        self.assertEqual(lines_of("A" * 10 + "     " + "B" * 10), 2)
        self.assertEqual(lines_of("A" * 20 + " " * 30 + "B"), 2)

    def test_blanks_at_a_paragraphs_ends_are_nothing(self):
        self.assertEqual(lines_of("   " + "A" * 20 + "   "), 1)
        self.assertEqual(lines_of("   " + "A" * 20 + " \n  " + "B" * 20 + "  "), 2)
        self.assertEqual(lines_of(" " * 50), 1)

    def test_cells_are_counted_and_not_letters(self):
        self.assertEqual(lines_of("a" * 10), 1)
        self.assertEqual(lines_of("a" * 11), 2)
        self.assertEqual(lines_of("the " * 10, 20, ("the", [51])), 1)
        self.assertEqual(lines_of("the " * 11, 20, ("the", [51])), 2)
        self.assertEqual(lines_of("the " * 6, 20, ("the", [51, 52, 53])), 2)

    def test_a_word_has_its_fewest_cells_on_a_line_too(self):
        forms = (("ABC", [51]), ("AB", [52]), ("CDE", [53]))
        self.assertEqual(lines_of("A" * 17 + " ABCDE", 20, *forms), 1)
        self.assertEqual(lines_of("A" * 18 + " ABCDE", 20, *forms), 2)


class WordsLongerThanALine(unittest.TestCase):
    def test_at_a_lines_beginning(self):
        self.assertEqual(lines_of("A" * 21), 2)
        self.assertEqual(lines_of("A" * 40), 2)
        self.assertEqual(lines_of("A" * 41), 3)
        self.assertEqual(lines_of("A" * 49, 48), 2)
        self.assertEqual(lines_of("  " + "A" * 21), 2)
        self.assertEqual(lines_of("B\n" + "A" * 21), 3)

    def test_not_at_a_lines_beginning(self):
        self.assertEqual(lines_of("B " + "A" * 21), 3)
        self.assertEqual(lines_of("B " + "A" * 40), 3)
        self.assertEqual(lines_of("B " + "A" * 41), 4)

    def test_the_next_word_stands_behind_it(self):
        self.assertEqual(lines_of("A" * 21 + " " + "B" * 18), 2)
        self.assertEqual(lines_of("A" * 21 + " " + "B" * 19), 3)
        self.assertEqual(lines_of("A" * 40 + " B"), 3)
        self.assertEqual(lines_of("A" * 38 + " B"), 2)

    def test_the_next_one_is_longer_than_a_line_too(self):
        self.assertEqual(lines_of("A" * 21 + " " + "B" * 21), 4)
        self.assertEqual(lines_of("A" * 40 + " " + "B" * 21), 4)

    def test_its_entries_are_not_cut(self):
        # 10 letters of 2 cells on a line of 21: cut, 21 letters would be 2 lines.
        self.assertEqual(lines_of("a" * 20, 21), 2)
        self.assertEqual(lines_of("a" * 21, 21), 3)
        self.assertEqual(lines_of("A" + "a" * 20, 21), 2)
        form = ("xyz", [51, 52, 53, 54, 55])
        self.assertEqual(lines_of("xyz" * 4, 20, form), 1)
        self.assertEqual(lines_of("xyz" * 4, 23, form), 1)
        self.assertEqual(lines_of("xyz" * 8, 24, form), 2)
        self.assertEqual(lines_of("xyz" * 9, 24, form), 3)

    def test_a_word_that_fits_a_line_is_not_parted(self):
        self.assertEqual(lines_of("A" * 11 + " " + "B" * 20 + " " + "C" * 9), 3)


class AgainstASlowCount(unittest.TestCase):
    def test_small_books(self):
        chance = random.Random(5)
        table = plain_table(("AB", [51, 52]), ("ABA", [53]), ("BAB", [54, 55, 56, 57, 58, 59]), ("aB", [60, 61]))
        for turn in range(150):
            width = chance.choice((20, 21, 22, 47, 48))
            signs = "ABa" * chance.choice((2, 5)) + "  \n"
            text = "".join(chance.choice(signs) for turn in range(chance.randint(0, 150)))
            answer = ask(start(table, width), open_call(text))[1]
            self.assertEqual(answer, [len(laid_slowly(text, table, width))], repr(text))

    def test_no_way_to_lay_the_words_takes_fewer_lines(self):
        chance = random.Random(6)
        for turn in range(100):
            counts = [chance.randint(1, 20) for word in range(chance.randint(1, 9))]
            text = " ".join("A" * count for count in counts)
            self.assertEqual(lines_of(text), fewest_lines(counts, 20), text)


if __name__ == "__main__":
    unittest.main()
