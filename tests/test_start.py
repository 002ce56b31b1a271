"""Promise 1: fp_start, what it takes and what it refuses."""

import random
import unittest

from helper import LETTERS, ask, cells_call, find_call, line_call, open_call, place_call, plain_table, start, touch_call

OK, NOT_VALID, NOT_SURE = [0], [-22], [-61]


def start_answer(entries, width=20):
    return ask(start(entries, width))[0]


def with_entry(text, cells):
    """The plain table and one more entry, told in numbers."""
    return plain_table() + [(list(text), list(cells))]


def filled_table(count):
    """A sure table of that many entries: letters and short forms of 3 letters and 2 cells."""
    table = plain_table()
    for number in range(count - len(table)):
        table.append(([65, 33 + number // 90, 33 + number % 90], [51 + number // 60, 1 + number % 60]))
    return table


def is_sure_slowly(codes):
    """Walks all strings of cells, with how many rows reach each of the last 6 places."""
    longest = max(len(code) for code in codes)
    signs = sorted({cell for code in codes for cell in code})
    first = ((), (0,) * (longest - 1) + (1,))
    seen = {first}
    waiting = [first]
    while waiting:
        behind, ways = waiting.pop()
        for sign in signs:
            string = (behind + (sign,))[-longest:]
            now = sum(ways[-len(code)] for code in codes
                      if len(code) <= len(string) and string[-len(code):] == tuple(code))
            if now > 1:
                return False
            state = (string, ways[1:] + (now,))
            if any(state[1]) and state not in seen:
                seen.add(state)
                waiting.append(state)
    return True


class CountsAndWidth(unittest.TestCase):
    def test_letters_alone_are_a_table(self):
        self.assertEqual(start_answer(plain_table()), OK)

    def test_how_many_entries(self):
        self.assertEqual(start_answer([]), NOT_VALID)
        self.assertEqual(start_answer(plain_table()[:1]), NOT_VALID)
        self.assertEqual(start_answer(plain_table()[:93]), NOT_VALID)
        self.assertEqual(start_answer(plain_table()[1:]), NOT_VALID)
        self.assertEqual(start_answer(filled_table(95)), OK)
        self.assertEqual(start_answer(filled_table(511)), OK)
        self.assertEqual(start_answer(filled_table(512)), OK)
        self.assertEqual(start_answer(filled_table(513)), NOT_VALID)
        self.assertEqual(start_answer(filled_table(600)), NOT_VALID)

    def test_width(self):
        for width in (20, 21, 32, 47, 48):
            self.assertEqual(start_answer(plain_table(), width), OK)
        for width in (0, 1, 19, 49, 50, 2 ** 31, 2 ** 32 - 1):
            self.assertEqual(start_answer(plain_table(), width), NOT_VALID)


class Entries(unittest.TestCase):
    def test_how_many_letters(self):
        self.assertEqual(start_answer(with_entry([], [51])), NOT_VALID)
        for count in (2, 11, 12):
            self.assertEqual(start_answer(with_entry([65] * count, [51])), OK)
        for count in (13, 14, 255, 1000):
            self.assertEqual(start_answer(with_entry([65] * count, [51])), NOT_VALID)

    def test_what_is_a_letter(self):
        for number in (33, 34, 125, 126):
            self.assertEqual(start_answer(with_entry([65, number], [51])), OK)
        for number in (0, 10, 31, 32, 127, 128, 255):
            for text in ([number], [number, 65], [65, number], [65, number, 65], [65] * 11 + [number]):
                self.assertEqual(start_answer(with_entry(text, [51])), NOT_VALID)

    def test_how_many_cells(self):
        self.assertEqual(start_answer(with_entry([65, 65], [])), NOT_VALID)
        for count in (1, 2, 5, 6):
            self.assertEqual(start_answer(with_entry([65, 65], [51] * count)), OK)
        for count in (7, 8, 255, 1000):
            self.assertEqual(start_answer(with_entry([65, 65], [51] * count)), NOT_VALID)

    def test_what_is_a_cell(self):
        for cell in (1, 2, 62, 63):
            self.assertEqual(start_answer(with_entry([65, 65], [51, cell])), OK)
        for cell in (0, 64, 65, 128, 255):
            for cells in ([cell], [cell, 51], [51, cell], [51, cell, 51], [51] * 5 + [cell]):
                self.assertEqual(start_answer(with_entry([65, 65], cells)), NOT_VALID)

    def test_a_bad_entry_is_seen_wherever_it_stands(self):
        for place in (0, 1, 50, 94):
            table = plain_table()
            table.insert(place, ([65, 66], [51, 0]))
            self.assertEqual(start_answer(table), NOT_VALID)
            table[place] = ([65, 66], [51, 1])
            self.assertEqual(start_answer(table), OK)

    def test_the_same_text_twice(self):
        self.assertEqual(start_answer(plain_table(("AB", [51]), ("AB", [52]))), NOT_VALID)
        self.assertEqual(start_answer(plain_table(("AB", [51]), ("AC", [53]), ("AB", [51]))), NOT_VALID)
        self.assertEqual(start_answer(plain_table(("A", [51]))), NOT_VALID)
        self.assertEqual(start_answer(plain_table(("AB", [51]), ("BA", [52]), ("ABA", [53]))), OK)

    def test_each_letter_alone_is_asked_for(self):
        for letter in LETTERS:
            table = plain_table()
            self.assertEqual(table[letter - 33][0], [letter])
            table[letter - 33] = ([letter, letter], table[letter - 33][1])
            self.assertEqual(start_answer(table), NOT_VALID)

    def test_letters_stand_in_any_order_among_the_others(self):
        table = plain_table(("AB", [51]), ("ABC", [52]))
        self.assertEqual(start_answer(table[::-1]), OK)
        self.assertEqual(start_answer(table[40:] + table[:40]), OK)


class Sure(unittest.TestCase):
    def check(self, codes, answer):
        """These cells for the short forms AA, AB, .. beside the plain letters."""
        forms = [("A" + chr(65 + number), code) for number, code in enumerate(codes)]
        self.assertEqual(start_answer(plain_table(*forms)), answer, codes)
        self.assertEqual(start_answer(plain_table(*forms[::-1])), answer, codes)

    def test_different_texts_with_the_same_cells(self):
        self.check([[51], [51]], NOT_SURE)
        self.check([[51, 52, 53, 54, 55, 56], [51, 52, 53, 54, 55, 56]], NOT_SURE)
        self.check([[33]], NOT_SURE)
        self.check([[63, 1]], NOT_SURE)

    def test_one_entry_like_a_row_of_others(self):
        self.check([[33, 34]], NOT_SURE)
        self.check([[1, 1, 1, 1, 1, 1]], NOT_SURE)
        self.check([[51], [52], [51, 52]], NOT_SURE)
        self.check([[51], [51, 51]], NOT_SURE)
        self.check([[51, 51], [51, 51, 51]], NOT_SURE)
        self.check([[51, 51, 51, 51, 51], [51, 51, 51, 51, 51, 51]], NOT_SURE)
        self.check([[1, 63, 1]], NOT_SURE)

    def test_one_begins_like_another_and_nothing_can_feel_alike(self):
        self.check([[51], [51, 52]], OK)
        self.check([[51], [51, 52], [51, 52, 52]], OK)
        self.check([[51, 52], [51]], OK)
        self.check([[63, 45], [63, 45, 60]], OK)
        self.check([[52, 51], [51, 51]], OK)
        self.check([[51], [51, 52, 53, 54, 55, 56], [52, 53, 54, 55, 56, 51]], NOT_SURE)
        self.check([[51], [51, 52, 53, 54, 55, 56], [52, 53, 54, 55, 56, 57]], OK)

    def test_alike_after_several_entries(self):
        chain = [[51], [51, 52], [52, 53], [53, 54], [54, 55], [55, 56], [56, 57]]
        self.check(chain, OK)
        self.check(chain + [[57]], NOT_SURE)
        self.check(chain[:-1] + [[56]], NOT_SURE)
        self.check(chain[:-1] + [[58]], OK)

    def test_alike_after_several_entries_that_are_shorter_than_the_rest(self):
        self.check([[51], [51, 52, 53, 54, 55, 56], [52], [53, 54], [55], [56, 57], [57]], NOT_SURE)
        self.check([[51], [51, 52, 53, 54, 55, 56], [52], [53, 54], [55], [56, 57], [58]], OK)
        self.check([[51], [51, 52, 53, 54, 55, 56], [52], [53], [54], [55], [56]], NOT_SURE)
        self.check([[51], [51, 52, 53, 54, 55, 56], [52], [53], [54], [55], [56, 56]], OK)

    def test_rests_that_come_again_and_again(self):
        self.check([[51], [51, 52], [52, 52]], OK)
        self.check([[51], [51, 52], [52, 51], [52, 52, 52]], NOT_SURE)
        self.check([[51], [51, 52], [52, 52], [52, 53], [53]], NOT_SURE)
        self.check([[51], [51, 52], [52, 52], [52, 53], [54]], OK)
        self.check([[51, 51, 51, 51, 51, 51], [51, 51, 51, 51, 51, 52], [52, 51]], OK)

    def test_a_short_form_that_feels_like_letters_across_their_ends(self):
        # 'a' is 63 15, 'A' is 33: 15 33 and 63 alone would be 63 15 33 once more.
        self.check([[15, 33], [63]], NOT_SURE)
        self.check([[63]], NOT_SURE)
        self.check([[63, 60, 15, 33], [63, 60]], NOT_SURE)
        self.check([[63, 45], [63, 45, 63]], NOT_SURE)

    def test_all_letters_with_a_cell_too_few(self):
        table = [([letter], [1 + (letter - 33) // 10, 1 + (letter - 33) % 10]) for letter in LETTERS]
        self.assertEqual(start_answer(table), OK)
        table[0] = ([33], [11])
        self.assertEqual(start_answer(table), OK)
        # With 10 alone, 10 1 and then 10 are the same as 10 and then 1 10.
        table[0] = ([33], [10])
        self.assertEqual(start_answer(table), NOT_SURE)

    def test_many_small_tables_against_a_slow_search(self):
        chance = random.Random(4711)
        found = {True: 0, False: 0}
        for number in range(300):
            cells = (51, 52) if number % 2 else (51, 52, 53)
            most = chance.choice((3, 4, 6))
            codes = [[chance.choice(cells) for turn in range(chance.randint(1 if number % 3 == 0 else 2, most))]
                     for turn in range(chance.randint(2, 6))]
            sure = is_sure_slowly(codes)
            found[sure] += 1
            self.check(codes, OK if sure else NOT_SURE)
        self.assertGreater(min(found.values()), 40)


class ToldFirst(unittest.TestCase):
    def test_what_is_no_table_is_told_ahead_of_what_is_not_sure(self):
        unsure = plain_table(("AB", [51]), ("AC", [51]))
        self.assertEqual(start_answer(unsure), NOT_SURE)
        self.assertEqual(start_answer(unsure, 19), NOT_VALID)
        self.assertEqual(start_answer(unsure, 49), NOT_VALID)
        self.assertEqual(start_answer(unsure[1:]), NOT_VALID)
        self.assertEqual(start_answer(unsure[2:]), NOT_VALID)
        self.assertEqual(start_answer(unsure + [([65] * 13, [52])]), NOT_VALID)
        self.assertEqual(start_answer(unsure + [([65, 68], [52, 0])]), NOT_VALID)
        self.assertEqual(start_answer(unsure + [([65, 66], [52])]), NOT_VALID)
        self.assertEqual(start_answer(filled_table(512) + [([65, 66], [1])]), NOT_VALID)


class CalledAgain(unittest.TestCase):
    REFUSED = ((plain_table()[1:], 20, NOT_VALID), (plain_table(("AC", [52])), 19, NOT_VALID),
               (plain_table(("AC", [52])), 49, NOT_VALID), (plain_table(("AC", [33])), 40, NOT_SURE))
    ABOUT_A_BOOK = (line_call(0), line_call(1), touch_call(0, 0), place_call(0), find_call("A"))

    def test_taken_the_new_table_holds(self):
        answers = ask(start(plain_table(("AB", [51]))), cells_call("ABAC"),
                      start(plain_table(("AC", [51]))), cells_call("ABAC"))
        self.assertEqual(answers, [OK, [3, 51, 33, 35], OK, [3, 33, 34, 51]])

    def test_taken_the_new_width_holds(self):
        text = open_call("A" * 21)
        self.assertEqual(ask(start(width=20), text, start(width=21), text, start(width=20), text),
                         [OK, [2], OK, [1], OK, [2]])

    def test_taken_no_book_is_open(self):
        answers = ask(start(), open_call("A"), start(), *self.ABOUT_A_BOOK)
        self.assertEqual(answers, [OK, [1], OK] + [[-2]] * 5)

    def test_no_book_is_open_at_first(self):
        self.assertEqual(ask(start(), *self.ABOUT_A_BOOK), [OK] + [[-2]] * 5)

    def test_refused_table_and_width_stay(self):
        first = plain_table(("AB", [51]))
        for table, width, refusal in self.REFUSED:
            answers = ask(start(first, 30), start(table, width), cells_call("ABAC"),
                          open_call("A" * 30), open_call("A" * 31), open_call("A" * 61))
            self.assertEqual(answers, [OK, refusal, [3, 51, 33, 35], [1], [2], [3]])

    def test_refused_the_open_book_stays(self):
        answers = ask(start(), open_call("A\nB"), *self.ABOUT_A_BOOK)[1:]
        self.assertEqual(answers, [[2], [1, 33] + [0] * 47, [1, 34] + [0] * 47, [0], [0, 0, 0], [0]])
        for table, width, refusal in self.REFUSED:
            again = ask(start(), open_call("A\nB"), start(table, width), *self.ABOUT_A_BOOK)[1:]
            self.assertEqual(again, [[2], refusal, *answers[1:]])

    def test_refused_at_first_and_taken_then(self):
        for table, width, refusal in self.REFUSED:
            answers = ask(start(table, width), start(table, width), start(), cells_call("AC"))
            self.assertEqual(answers, [refusal, refusal, OK, [2, 33, 35]])


if __name__ == "__main__":
    unittest.main()
