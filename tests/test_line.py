"""Promise 5: fp_line, the cells of a book's line."""

import random
import unittest

from helper import (MOST, ask, ask_book, cells_slowly, find_call, laid_slowly, line_call, open_call, place_call,
                    plain_table, start, touch_call)

NOT_THERE = [-2]
FORMS = (("the", [51]), ("ing", [52, 53, 54]), ("AB", [55]), ("ABC", [56, 57]))
NO_CELLS = [0] + [0] * 48


def line(*cells):
    """What is answered for a line with these cells."""
    return [len(cells), *cells] + [0] * (48 - len(cells))


def lines_of(text, count, *short_forms, width=20):
    """The answers for so many lines; behind these there must be none."""
    *found, behind = ask_book(text, *[line_call(number) for number in range(count + 1)],
                              table=plain_table(*short_forms), width=width)
    assert behind == NOT_THERE, behind
    return found


class EachLine(unittest.TestCase):
    def test_the_cells_of_each_line(self):
        text = " AB  the\n\n" + "ing" * 7 + " A"
        self.assertEqual(lines_of(text, 4, *FORMS),
                         [line(55, 0, 51), NO_CELLS, line(*[52, 53, 54] * 6), line(52, 53, 54, 0, 33)])

    def test_how_many_are_told_with_the_empty_ones_between_words(self):
        self.assertEqual(ask_book("A B C", line_call(0)), [[5, 33, 0, 34, 0, 35] + [0] * 43])

    def test_one_empty_cell_for_several_blanks_and_none_at_the_ends(self):
        self.assertEqual(lines_of("   A    B  ", 1), [line(33, 0, 34)])
        self.assertEqual(lines_of("A  \n  B", 2), [line(33), line(34)])
        self.assertEqual(lines_of("A" * 20 + "   B", 2), [line(*[33] * 20), line(34)])

    def test_48_cells_however_wide_the_lines_are(self):
        for width in (20, 21, 33, 47, 48):
            for count in (1, 2, width - 1, width):
                answer = ask_book("A" * count, line_call(0), width=width)[0]
                self.assertEqual(answer, [count] + [33] * count + [0] * (48 - count))
                self.assertEqual(len(answer), 49)

    def test_a_full_line(self):
        for width in (20, 21, 47, 48):
            full = "A" * 9 + " " + "B" * (width - 10)
            self.assertEqual(lines_of(full + " C\n" + full, 3, width=width),
                             [line(*[33] * 9, 0, *[34] * (width - 10)), line(35),
                              line(*[33] * 9, 0, *[34] * (width - 10))])

    def test_a_line_that_is_a_cell_short_of_full(self):
        self.assertEqual(lines_of("A" * 19 + " B", 2), [line(*[33] * 19), line(34)])
        self.assertEqual(lines_of("A" * 19 + "\nB", 2), [line(*[33] * 19), line(34)])
        self.assertEqual(lines_of("a" * 12, 2, width=21), [line(*[63, 15] * 10), line(63, 15, 63, 15)])

    def test_a_line_without_cells(self):
        self.assertEqual(lines_of("", 1), [NO_CELLS])
        self.assertEqual(lines_of("   ", 1), [NO_CELLS])
        self.assertEqual(lines_of("\n", 2), [NO_CELLS, NO_CELLS])
        self.assertEqual(lines_of("\n \nA\n\n", 5), [NO_CELLS, NO_CELLS, line(33), NO_CELLS, NO_CELLS])
        self.assertEqual(ask_book("A\n\nB", line_call(1), width=48), [NO_CELLS])

    def test_a_word_longer_than_a_line(self):
        self.assertEqual(lines_of("B " + "A" * 41 + " C", 4),
                         [line(34), line(*[33] * 20), line(*[33] * 20), line(33, 0, 35)])
        self.assertEqual(lines_of("A" * 40 + " C", 3), [line(*[33] * 20), line(*[33] * 20), line(35)])
        self.assertEqual(lines_of("A" * 49, 2, width=48), [line(*[33] * 48), line(33)])

    def test_no_entry_is_cut(self):
        form = ("xyz", [51, 52, 53, 54, 55])
        self.assertEqual(lines_of("A" + "xyz" * 4, 2, form), [line(33, *form[1] * 3), line(*form[1])])
        self.assertEqual(lines_of("a" * 21, 3, width=21), [line(*[63, 15] * 10), line(*[63, 15] * 10), line(63, 15)])
        # The long entry does not fit any more, and the short one behind it stays behind it.
        self.assertEqual(lines_of("A" * 16 + "xyzA", 2, form), [line(*[33] * 16), line(*form[1], 33)])

    def test_each_line_in_any_order_and_again(self):
        text = "A\nB\n\nC D"
        asked = [3, 0, 2, 3, 1, 1, 0]
        lines = [line(33), line(34), NO_CELLS, line(35, 0, 36)]
        self.assertEqual(ask_book(text, *map(line_call, asked)), [lines[number] for number in asked])

    def test_the_first_and_the_last_of_many(self):
        self.assertEqual(ask_book("\n" * 4095 + "A", *map(line_call, (0, 1, 4094, 4095, 4096))),
                         [NO_CELLS, NO_CELLS, NO_CELLS, line(33), NOT_THERE])
        self.assertEqual(ask_book("\n" * 4096, *map(line_call, (0, 4096, 4097))), [NO_CELLS, NO_CELLS, NOT_THERE])


class NoSuchLine(unittest.TestCase):
    def test_behind_the_last_line(self):
        for text, count in (("", 1), ("A", 1), ("A\n", 2), ("A" * 21, 2), ("\n\n\n", 4)):
            calls = map(line_call, (count - 1, count, count + 1, 48, 4096, MOST - 1, MOST))
            self.assertEqual([answer[0] < 0 for answer in ask_book(text, *calls)], [False] + [True] * 6)
            self.assertEqual(ask_book(text, line_call(count), line_call(MOST)), [NOT_THERE] * 2)

    def test_no_book_ahead_of_the_first_one(self):
        self.assertEqual(ask(start(), *map(line_call, (0, 1, MOST))), [[0]] + [NOT_THERE] * 3)

    def test_no_book_behind_a_refused_one_alone(self):
        self.assertEqual(ask(start(), open_call([31]), line_call(0)), [[0], [-22], NOT_THERE])

    def test_no_book_behind_a_start_that_is_taken(self):
        answers = ask(start(), open_call("A\nB"), line_call(0), start(), line_call(0), line_call(1),
                      open_call("C"), line_call(0), line_call(1))
        self.assertEqual(answers[2:], [line(33), [0], NOT_THERE, NOT_THERE, [1], line(35), NOT_THERE])

    def test_after_a_refusal_all_is_as_it_was(self):
        self.assertEqual(ask_book("A", line_call(1), line_call(0)), [NOT_THERE, line(33)])
        asked = (touch_call(0, 0), place_call(0), find_call("A"))
        self.assertEqual(ask_book("A", line_call(1), *asked)[1:], ask_book("A", *asked))


class AgainstASlowBook(unittest.TestCase):
    def test_small_books(self):
        chance = random.Random(51)
        table = plain_table(*FORMS, ("aB", [60, 61, 60, 61, 60, 61]))
        parts = ("the", "ing", "AB", "ABC", "A", "b", "aB", " ", " ", " ", "  ", "\n", "x" * 15)
        for turn in range(60):
            width = chance.choice((20, 21, 23, 47, 48))
            text = "".join(chance.choice(parts) for turn in range(chance.randint(0, 90)))
            lines = laid_slowly(text, table, width)
            answers = ask_book(text, *[line_call(number) for number in range(len(lines))], table=table, width=width)
            self.assertEqual(answers, [line(*cells_slowly(found)) for found in lines], repr(text))


if __name__ == "__main__":
    unittest.main()
