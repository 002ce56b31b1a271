"""Promise 2: fp_cells, the cells of a text."""

import random
import unittest

from helper import ask, best_row, cells_call, numbers_of, plain_table, rows_of, start, text_call, worth

NOT_VALID = [-22]


def cells_of(text, *short_forms):
    """What fp_cells answers with the plain letters and these short forms."""
    answer = ask(start(plain_table(*short_forms)), cells_call(text))[1]
    if answer[0] >= 0:
        assert answer[0] == len(answer) - 1
        return answer[1:]
    return answer


class WhatIsRefused(unittest.TestCase):
    def test_how_many_bytes(self):
        self.assertEqual(cells_of("A" * 4095), [33] * 4095)
        self.assertEqual(cells_of("A" * 4096), [33] * 4096)
        self.assertEqual(cells_of(" " * 4096), [0] * 4096)
        self.assertEqual(cells_of("A B " * 1024), [33, 0, 34, 0] * 1024)
        for text in ("A" * 4097, " " * 4097, "A" * 5000):
            self.assertEqual(cells_of(text), NOT_VALID)

    def test_few_cells_do_not_help_a_long_text(self):
        form = ("ABCDEFGHIJKL", [51])
        self.assertEqual(cells_of(form[0] * 341, form), [51] * 341)
        self.assertEqual(cells_of(form[0] * 342, form), NOT_VALID)

    def test_what_is_neither_a_letter_nor_a_blank(self):
        for number in (0, 1, 9, 10, 11, 13, 31, 127, 128, 160, 255):
            for text in ([number], [number, 65], [65, number], [65, 32, number, 32, 65]):
                self.assertEqual(cells_of(text), NOT_VALID)

    def test_the_first_and_the_last_letter(self):
        self.assertEqual(cells_of([33, 126]), [1, 63, 44])
        self.assertEqual(cells_of(range(32, 127)),
                         [0, *range(1, 51), *[cell for last in range(1, 45) for cell in (63, last)]])

    def test_after_a_refusal_all_is_as_it_was(self):
        answers = ask(start(plain_table(("AB", [51]))), cells_call("AB"), cells_call("A\n"), cells_call("AB"))
        self.assertEqual(answers, [[0], [1, 51], NOT_VALID, [1, 51]])


class Blanks(unittest.TestCase):
    def test_a_text_of_nothing(self):
        self.assertEqual(ask(start(), cells_call(""))[1], [0])

    def test_an_empty_cell_for_each_blank(self):
        self.assertEqual(cells_of(" "), [0])
        self.assertEqual(cells_of("   "), [0, 0, 0])
        self.assertEqual(cells_of("A B"), [33, 0, 34])
        self.assertEqual(cells_of(" A"), [0, 33])
        self.assertEqual(cells_of("A "), [33, 0])
        self.assertEqual(cells_of("  A   B a  "), [0, 0, 33, 0, 0, 0, 34, 0, 63, 15, 0, 0])

    def test_a_word_ends_at_a_blank(self):
        form = ("AB", [51])
        self.assertEqual(cells_of("A B AB", form), [33, 0, 34, 0, 51])
        self.assertEqual(cells_of("ABA BAB", form), [51, 33, 0, 34, 51])

    def test_how_many_is_told_with_the_empty_cells(self):
        self.assertEqual(ask(start(), cells_call(" Aa  "))[1], [6, 0, 33, 63, 15, 0, 0])


class FewestCells(unittest.TestCase):
    def test_a_short_form_is_taken(self):
        self.assertEqual(cells_of("the", ("the", [51])), [51])
        self.assertEqual(cells_of("other", ("the", [51])), [63, 29, 51, 63, 32])
        self.assertEqual(cells_of("ABCDEFGHIJKL", ("ABCDEFGHIJKL", [51, 52])), [51, 52])

    def test_a_longer_text_with_more_cells_is_not_taken(self):
        self.assertEqual(cells_of("AB", ("AB", [51, 52, 53])), [33, 34])
        self.assertEqual(cells_of("ABC", ("ABC", [51, 52, 53]), ("AB", [54])), [54, 35])

    def test_another_entry_than_the_longest_at_the_beginning(self):
        self.assertEqual(cells_of("abcd", ("ab", [51]), ("bcd", [52])), [63, 15, 52])
        self.assertEqual(cells_of("ABCDE", ("ABC", [51]), ("AB", [52]), ("CDE", [53])), [52, 53])
        self.assertEqual(cells_of("ABCDE", ("ABCD", [51, 52, 53]), ("BCDE", [54])), [33, 54])

    def test_another_entry_than_the_longest_later(self):
        self.assertEqual(cells_of("xABCDE", ("ABC", [51]), ("AB", [52]), ("CDE", [53])), [63, 38, 52, 53])

    def test_fewest_cells_are_not_fewest_entries(self):
        forms = (("ABC", [51, 52, 53, 54]), ("DEF", [55]))
        self.assertEqual(cells_of("ABCDEF", *forms), [33, 34, 35, 55])

    def test_one_letter_with_many_cells(self):
        table = plain_table(("AB", [51, 52, 53]))
        table[65 - 33] = ([65], [54, 54, 54, 54, 54, 55])
        answers = ask(start(table), cells_call("ABA"), cells_call("A" * 4096))
        self.assertEqual(answers[1], [9, 51, 52, 53, 54, 54, 54, 54, 54, 55])
        self.assertEqual(answers[2], [24576, *[54, 54, 54, 54, 54, 55] * 4096])


class SeveralRows(unittest.TestCase):
    """With as many cells, the longer text at the first difference is taken."""

    def test_one_entry_or_its_letters(self):
        self.assertEqual(cells_of("AB", ("AB", [51, 52])), [51, 52])
        self.assertEqual(cells_of("CABC", ("AB", [51, 52])), [35, 51, 52, 35])

    def test_the_longer_one_first(self):
        self.assertEqual(cells_of("ABC", ("AB", [51]), ("BC", [52])), [51, 35])
        self.assertEqual(cells_of("ABCD", ("AB", [51]), ("BCD", [52, 53]), ("CD", [54, 55])), [51, 54, 55])
        self.assertEqual(cells_of("ABCD", ("ABC", [51, 52]), ("AB", [53]), ("CD", [54, 55])), [51, 52, 36])

    def test_the_longer_one_later(self):
        self.assertEqual(cells_of("XYABC", ("AB", [51]), ("BC", [52]), ("XY", [53])), [53, 51, 35])

    def test_the_first_difference_counts_and_not_the_longest_text_of_all(self):
        forms = (("AB", [51, 52]), ("BCDEF", [53, 54, 55]), ("CDEF", [56, 57]))
        self.assertEqual(cells_of("ABCDEF", *forms), [51, 52, 56, 57])

    def test_the_longer_one_only_if_the_rest_has_as_few(self):
        self.assertEqual(cells_of("ABCD", ("AB", [51, 52]), ("BCD", [53])), [33, 53])

    def test_the_order_of_the_table_says_nothing(self):
        table = plain_table(("AB", [51]), ("BC", [52]), ("ABC", [53, 54]))
        for entries in (table, table[::-1]):
            self.assertEqual(ask(start(entries), cells_call("ABC"))[1], [2, 53, 54])


class AgainstAllRows(unittest.TestCase):
    def test_small_words(self):
        chance = random.Random(12)
        several = 0
        for turn in range(40):
            table = self.some_table(chance)
            words = ["".join(chance.choice("ABC") for letter in range(chance.randint(1, 9))) for turn in range(20)]
            answers = ask(start(table), *[cells_call(word) for word in words])
            for word, answer in zip(words, answers[1:]):
                rows = rows_of(numbers_of(word), table)
                row = max(rows, key=worth)
                self.assertEqual(row, best_row(numbers_of(word), table))
                cells = [cell for text, entry_cells in row for cell in entry_cells]
                self.assertEqual(answer, [len(cells), *cells], word)
                counts = [sum(len(part[1]) for part in other) for other in rows]
                several += counts.count(len(cells)) > 1
        self.assertGreater(several, 100)

    def some_table(self, chance):
        """Short forms of A, B and C, each with cells that begin with one of its own."""
        forms = {}
        while len(forms) < 8:
            text = "".join(chance.choice("ABC") for letter in range(chance.randint(2, 5)))
            forms.setdefault(text, [51 + len(forms)] + [62] * chance.randint(0, 2))
        return plain_table(*forms.items())


class BackAgain(unittest.TestCase):
    def test_what_is_put_into_cells_is_read_back(self):
        table = plain_table(("the", [51]), ("he", [51, 52]), ("th", [52, 52]), ("AB", [53, 54]), ("ABC", [55, 56]))
        texts = ["", " ", "   ", "the other thing", "  ABC  ABAB  ", "".join(map(chr, range(32, 127)))]
        for text in texts:
            cells = ask(start(table), cells_call(text))[1]
            self.assertEqual(ask(start(table), text_call(cells[1:]))[1], [len(text), *numbers_of(text)])


if __name__ == "__main__":
    unittest.main()
