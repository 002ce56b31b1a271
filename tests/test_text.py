"""Promise 3: fp_text, the text of cells."""

import random
import unittest

from helper import ask, cells_call, numbers_of, plain_cells, plain_table, start, text_call

NOT_VALID, NO_ROW, TOO_LONG = [-22], [-13], [-28]

# Reading these looks ahead without an end: 51 and then 52s is 'x' or 'xy',
# as the 52s are even or odd in number.
FAR_AHEAD = (("XX", [51]), ("XY", [51, 52]), ("YY", [52, 52]))


def text_of(cells, *short_forms):
    """What fp_text answers with the plain letters and these short forms."""
    answer = ask(start(plain_table(*short_forms)), text_call(cells))[1]
    if answer[0] >= 0:
        assert answer[0] == len(answer) - 1
        return bytes(answer[1:]).decode("latin-1")
    return answer


def long_letter_table():
    """The plain table, but 'A' has 6 cells."""
    table = plain_table(("ABCDEFGHIJKL", [52]))
    table[65 - 33] = ([65], [51, 51, 51, 51, 51, 51])
    return table


class WhatIsRefused(unittest.TestCase):
    def test_how_many_cells(self):
        answers = ask(start(long_letter_table()), text_call([51] * 24576))
        self.assertEqual(answers[1], [4096, *[65] * 4096])
        answers = ask(start(long_letter_table()), text_call([51] * 24577))
        self.assertEqual(answers[1], NOT_VALID)
        self.assertEqual(text_of([0] * 24577), NOT_VALID)
        self.assertEqual(text_of([0] * 24576), TOO_LONG)
        self.assertEqual(text_of([33] * 24575), TOO_LONG)

    def test_a_number_above_63(self):
        self.assertEqual(text_of([63, 44]), "~")
        for number in (64, 65, 127, 128, 255):
            for cells in ([number], [number, 33], [33, number], [33, 0, number, 0, 33]):
                self.assertEqual(text_of(cells), NOT_VALID)

    def test_no_row_of_entries(self):
        for cells in ([51], [63], [62, 33], [33, 62], [33, 63], [63, 63], [63, 45], [63, 1, 63]):
            self.assertEqual(text_of(cells), NO_ROW)

    def test_no_row_before_between_and_behind_empty_cells(self):
        for bad in ([51], [63], [33, 51], [51, 33]):
            for cells in (bad + [0, 33], [33, 0] + bad + [0, 33], [33, 0] + bad,
                          [0] + bad, bad + [0], [0, 0] + bad + [0, 0], [33, 0, 33, 0, 0] + bad + [0]):
                self.assertEqual(text_of(cells), NO_ROW)

    def test_an_entry_does_not_reach_over_an_empty_cell(self):
        form = ("AB", [51, 52])
        self.assertEqual(text_of([51, 52], form), "AB")
        self.assertEqual(text_of([51, 0, 52], form), NO_ROW)
        self.assertEqual(text_of([63, 0, 1]), NO_ROW)

    def test_cells_of_another_entry_behind_an_empty_cell_do_not_help(self):
        self.assertEqual(text_of([51, 0, 33], ("AB", [51, 33])), NO_ROW)

    def test_a_text_too_long(self):
        self.assertEqual(text_of([33] * 4096), "A" * 4096)
        self.assertEqual(text_of([33] * 4097), TOO_LONG)
        self.assertEqual(text_of([0] * 4096), " " * 4096)
        self.assertEqual(text_of([0] * 4097), TOO_LONG)
        self.assertEqual(text_of([33, 0] * 2048), "A " * 2048)
        self.assertEqual(text_of([33, 0] * 2048 + [33]), TOO_LONG)

    def test_a_text_too_long_of_few_cells(self):
        form = ("ABCDEFGHIJKL", [51])
        self.assertEqual(text_of([51] * 341 + [33, 34, 35, 36], form), form[0] * 341 + "ABCD")
        self.assertEqual(text_of([51] * 341 + [33, 34, 35, 36, 37], form), TOO_LONG)
        self.assertEqual(text_of([51] * 24576, form), TOO_LONG)


class ToldFirst(unittest.TestCase):
    def test_not_valid_ahead_of_no_row(self):
        self.assertEqual(text_of([51, 0, 64]), NOT_VALID)
        self.assertEqual(text_of([64, 0, 51]), NOT_VALID)
        self.assertEqual(text_of([51] * 24577), NOT_VALID)

    def test_not_valid_ahead_of_too_long(self):
        self.assertEqual(text_of([33] * 4097 + [64]), NOT_VALID)
        self.assertEqual(text_of([33] * 24577), NOT_VALID)

    def test_no_row_ahead_of_too_long(self):
        self.assertEqual(text_of([33] * 4097 + [51]), NO_ROW)
        self.assertEqual(text_of([51] + [33] * 4097), NO_ROW)
        self.assertEqual(text_of([33] * 4097 + [0, 51]), NO_ROW)
        self.assertEqual(text_of([51] * 24576), NO_ROW)


class WhatIsRead(unittest.TestCase):
    def test_nothing(self):
        self.assertEqual(ask(start(), text_call([]))[1], [0])

    def test_a_blank_for_each_empty_cell(self):
        self.assertEqual(text_of([0]), " ")
        self.assertEqual(text_of([0, 0, 0]), "   ")
        self.assertEqual(text_of([33, 0, 34]), "A B")
        self.assertEqual(text_of([0, 0, 33, 0, 0, 63, 15, 0]), "  A  a ")

    def test_how_many_bytes_are_told(self):
        form = ("ABC", [51, 52])
        self.assertEqual(ask(start(plain_table(form)), text_call([51, 52, 0, 33]))[1], [5, 65, 66, 67, 32, 65])

    def test_each_letter(self):
        cells = [cell for letter in range(33, 127) for cell in plain_cells(letter)]
        self.assertEqual(text_of(cells), "".join(map(chr, range(33, 127))))

    def test_rows_that_are_not_the_ones_with_the_fewest_cells(self):
        forms = (("the", [51]), ("th", [52, 53]), ("AB", [54]), ("ABC", [55, 56, 57, 58, 59, 60]))
        for cells in ([51], [52, 53, 63, 19], [63, 34, 63, 22, 63, 19]):
            self.assertEqual(text_of(cells, *forms), "the")
        for cells in ([33, 34, 35], [54, 35], [55, 56, 57, 58, 59, 60]):
            self.assertEqual(text_of(cells, *forms), "ABC")

    def test_one_entry_begins_like_another(self):
        forms = (("AA", [51]), ("AB", [51, 52]), ("AC", [51, 52, 53, 54, 55, 56]))
        self.assertEqual(text_of([51, 51, 52, 51], *forms), "AAABAA")
        self.assertEqual(text_of([51, 52, 53, 54, 55, 56], *forms), "AC")
        self.assertEqual(text_of([51, 52, 53, 54, 55], *forms), NO_ROW)

    def test_what_is_only_told_by_its_end(self):
        for pairs in (0, 1, 2, 3, 100, 1000):
            self.assertEqual(text_of([51] + [52] * (2 * pairs), *FAR_AHEAD), "XX" + "YY" * pairs)
            self.assertEqual(text_of([51] + [52] * (2 * pairs + 1), *FAR_AHEAD), "XY" + "YY" * pairs)
        self.assertEqual(text_of([51, 52, 52, 0, 51, 52, 51], *FAR_AHEAD), "XXYY XYXX")
        self.assertEqual(text_of([52, 52, 52], *FAR_AHEAD), NO_ROW)

    def test_many_entries_one_behind_another(self):
        self.assertEqual(text_of([33, 63, 15] * 1300), "Aa" * 1300)


class HoweverWritten(unittest.TestCase):
    def test_rows_of_entries_in_any_way(self):
        chance = random.Random(99)
        table = plain_table(("the", [53]), ("th", [54, 55]), ("he", [54, 54, 55]), ("AB", [57]),
                            ("BA", [58, 57]), *FAR_AHEAD)
        for turn in range(40):
            text, cells = [], []
            for entry in range(chance.randint(0, 60)):
                if chance.random() < 0.2:
                    text.append(32)
                    cells.append(0)
                else:
                    written = chance.choice(table[chance.choice((0, 90)):])
                    text += written[0]
                    cells += written[1]
            answers = ask(start(table), text_call(cells), cells_call(text))
            self.assertEqual(answers[1], [len(text), *text])
            self.assertLessEqual(answers[2][0], len(cells))
            self.assertEqual(ask(start(table), text_call(answers[2][1:]))[1], answers[1])

    def test_what_fp_cells_answers_is_read_to_the_letter_and_the_blank(self):
        table = long_letter_table()
        for text in ("", "   ", "  Aa  ~! ", "A" * 4096, "ABCDEFGHIJKL" * 341, " A" * 2048):
            cells = ask(start(table), cells_call(text))[1]
            self.assertGreaterEqual(cells[0], 0)
            self.assertEqual(ask(start(table), text_call(cells[1:]))[1], [len(text), *numbers_of(text)])


if __name__ == "__main__":
    unittest.main()
