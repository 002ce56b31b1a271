"""Promise 8: fp_find, where the book's text goes on with these bytes."""

import random
import unittest

from helper import MOST, ask, ask_book, find_call, line_call, open_call, place_call, plain_table, start, touch_call

NOT_THERE, NOT_VALID = [-2], [-22]


def find(text, what, beginning=0):
    """The place, or the refusal's number."""
    answer = ask_book(text, find_call(what, beginning))[0]
    assert len(answer) == 1
    return answer[0]


def find_all(text, what):
    """Each place, one from behind the other."""
    answers = ask_book(text, *[find_call(what, beginning) for beginning in range(len(text) + 2)])
    return sorted({answer[0] for answer in answers} - {-2})


class HowManyBytes(unittest.TestCase):
    def test_none(self):
        for text in ("", "A", "A B\n"):
            for beginning in (0, 1, 4, MOST):
                self.assertEqual(find(text, "", beginning), -22)

    def test_one(self):
        self.assertEqual(find("A", "A"), 0)
        self.assertEqual(find("ABC", "C"), 2)
        self.assertEqual(find("ABC", "D"), -2)

    def test_64(self):
        text = "".join(map(chr, range(33, 127)))
        self.assertEqual(find(text, text[:64]), 0)
        self.assertEqual(find(text, text[1:65]), 1)
        self.assertEqual(find(text, text[30:]), 30)
        self.assertEqual(find(text, text[29:93], 29), 29)
        self.assertEqual(find(text, text[29:93], 30), -2)
        self.assertEqual(find("A" * 64, "A" * 64), 0)
        self.assertEqual(find("A" * 64, "A" * 63 + "B"), -2)
        self.assertEqual(find("A" * 63 + "B", "B" + "A" * 63), -2)

    def test_65_and_more(self):
        for count in (65, 66, 128, 4096, 5000):
            self.assertEqual(find("A" * 4096, "A" * count), -22)
            self.assertEqual(find("B", "A" * count), -22)
            self.assertEqual(find("A" * 100, "A" * count, MOST), -22)

    def test_told_ahead_of_no_place(self):
        for beginning in (0, MOST):
            self.assertEqual(ask(start(), find_call("", beginning), find_call("A" * 65, beginning),
                                 find_call("A", beginning), find_call("A" * 64, beginning)),
                             [[0], NOT_VALID, NOT_VALID, NOT_THERE, NOT_THERE])


class FromWhere(unittest.TestCase):
    def test_at_the_place_where_it_stands_and_one_behind(self):
        self.assertEqual(find("xxABxx", "AB", 0), 2)
        self.assertEqual(find("xxABxx", "AB", 1), 2)
        self.assertEqual(find("xxABxx", "AB", 2), 2)
        self.assertEqual(find("xxABxx", "AB", 3), -2)
        self.assertEqual(find("xxABxxAB", "AB", 2), 2)
        self.assertEqual(find("xxABxxAB", "AB", 3), 6)
        self.assertEqual(find("xxABxxAB", "AB", 6), 6)
        self.assertEqual(find("xxABxxAB", "AB", 7), -2)

    def test_at_and_behind_the_texts_end(self):
        for beginning in (2, 3, 4, 64, 4096, MOST - 1, MOST):
            self.assertEqual(find("AA", "A", beginning), -2)
        self.assertEqual(find("AA", "A", 1), 1)
        for beginning in (0, 1, MOST):
            self.assertEqual(find("", "A", beginning), -2)

    def test_the_first_of_several(self):
        self.assertEqual(find("ABABAB", "AB"), 0)
        self.assertEqual(find("ABABAB", "AB", 1), 2)
        self.assertEqual(find("ABABAB", "B"), 1)

    def test_overlapping_places(self):
        self.assertEqual(find_all("AAAA", "AA"), [0, 1, 2])
        self.assertEqual(find_all("ABABABA", "ABA"), [0, 2, 4])
        self.assertEqual(find_all("A" * 70, "A" * 64), list(range(7)))
        self.assertEqual(find_all("    ", "  "), [0, 1, 2])

    def test_half_of_it_stands_there_first(self):
        self.assertEqual(find("AABAAC", "AAC"), 3)
        self.assertEqual(find("AAAAB", "AAB"), 2)
        self.assertEqual(find("ABACABAD", "ABAD"), 4)

    def test_longer_than_what_is_left_of_the_text(self):
        self.assertEqual(find("AB", "ABC"), -2)
        self.assertEqual(find("ABAB", "ABAB", 1), -2)
        self.assertEqual(find("ABCAB", "ABC", 1), -2)
        self.assertEqual(find("AAA", "AAAA"), -2)
        self.assertEqual(find("A", "A" * 64), -2)
        # What stands at the text's beginning is not behind its end.
        self.assertEqual(find("BA", "AB"), -2)
        self.assertEqual(find("BA", "AB", 1), -2)

    def test_the_last_places_of_a_long_text(self):
        text = "A" * 4095 + "B"
        self.assertEqual(find(text, "B"), 4095)
        self.assertEqual(find(text, "A" * 63 + "B"), 4032)
        self.assertEqual(find(text, "A" * 63 + "B", 4032), 4032)
        self.assertEqual(find(text, "A" * 63 + "B", 4033), -2)


class WhichBytes(unittest.TestCase):
    def test_blanks(self):
        self.assertEqual(find("A B", " "), 1)
        self.assertEqual(find_all("  A   B ", " "), [0, 1, 3, 4, 5, 7])
        # The lines hold one empty cell, the text all of its blanks.
        self.assertEqual(find("A   B", "   B"), 1)
        self.assertEqual(find("A   B", "A B"), -2)
        self.assertEqual(find("AB", " "), -2)

    def test_lines_ends(self):
        self.assertEqual(find("A\nB", "\n"), 1)
        self.assertEqual(find("A\nB", "A\nB"), 0)
        self.assertEqual(find_all("\nA\n\n", "\n"), [0, 2, 3])
        self.assertEqual(find("A\n\n B", "\n B"), 2)
        self.assertEqual(find("A B", "\n"), -2)

    def test_over_the_end_of_a_line_of_cells(self):
        self.assertEqual(find("A" * 20 + " BC", "A BC"), 19)
        self.assertEqual(find("A" * 19 + "BCD", "BCD"), 19)
        self.assertEqual(find("A" * 20 + "  " + "B" * 20, "AA  BB"), 18)
        # Where the next line begins only for want of room, there is no line's end in the text.
        self.assertEqual(find("A" * 20 + " BC", "\n"), -2)

    def test_none_of_the_texts(self):
        for number in (0, 1, 9, 11, 13, 31, 127, 128, 255):
            self.assertEqual(find("A B\nC", [number]), -2)
            self.assertEqual(find("A B\nC", [65, number]), -2)
            self.assertEqual(find("A B\nC", [number] * 64), -2)
            self.assertEqual(find("A B\nC", [number] * 65), -22)

    def test_letters_and_not_entries(self):
        table = plain_table(("the", [51]))
        calls = [find_call(what) for what in ("the", "he", "e", "th", [51])]
        self.assertEqual(ask_book("A the", *calls, table=table), [[2], [3], [4], [2], NOT_THERE])
        self.assertEqual(find("aA", "A"), 1)


class TheBook(unittest.TestCase):
    def test_no_book(self):
        self.assertEqual(ask(start(), find_call("A"), find_call("A", MOST)), [[0], NOT_THERE, NOT_THERE])
        self.assertEqual(ask(start(), open_call("A\t"), find_call("A")), [[0], NOT_VALID, NOT_THERE])
        answers = ask(start(), open_call("A"), find_call("A"), start(), find_call("A"), open_call(" A"), find_call("A"))
        self.assertEqual(answers[2:], [[0], [0], NOT_THERE, [1], [1]])

    def test_after_a_refusal_all_is_as_it_was(self):
        asked = (find_call("A"), line_call(0), touch_call(0, 0), place_call(0))
        self.assertEqual(ask_book("A B", find_call("C"), find_call(""), *asked)[2:], ask_book("A B", *asked))

    def test_small_texts_against_a_slow_search(self):
        chance = random.Random(81)
        for turn in range(60):
            text = "".join(chance.choice("AAB \n") for turn in range(chance.randint(0, 60)))
            calls, expected = [], []
            for turn in range(60):
                what = "".join(chance.choice("AAB \n") for turn in range(chance.randint(1, 5)))
                beginning = chance.randint(0, len(text) + 2)
                places = [place for place in range(beginning, len(text)) if text.startswith(what, place)]
                calls.append(find_call(what, beginning))
                expected.append([min(places, default=-2)])
            self.assertEqual(ask_book(text, *calls), expected, repr(text))


if __name__ == "__main__":
    unittest.main()
