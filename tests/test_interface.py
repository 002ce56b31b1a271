"""The interface: calls in one list of whole numbers, their answers in one."""

import unittest

from fingercells.pages import answers
from helper import (MOST, ask, cells_call, find_call, flat, line_call, open_call, place_call, plain_table, start,
                    text_call, touch_call)


def one_behind_another(*calls):
    return [number for call in calls for number in call]


class OneList(unittest.TestCase):
    def test_a_start_alone(self):
        self.assertEqual(answers(start()), [1, 0])

    def test_each_answer_has_its_length_before_it(self):
        asked = one_behind_another(start(plain_table(("AB", [51]))), cells_call("AB a"), text_call([51, 0, 63, 15]),
                                   open_call("A\nB"), cells_call(""), text_call([]), open_call(""))
        self.assertEqual(answers(asked), [1, 0, 5, 4, 51, 0, 63, 15, 5, 4, 65, 66, 32, 97,
                                          1, 2, 1, 0, 1, 0, 1, 1])

    def test_a_refusal_stands_alone(self):
        asked = one_behind_another(start(), cells_call("\n"), text_call([64]), text_call([62]),
                                   text_call([0] * 4097), open_call([127]), start(width=19),
                                   start(plain_table(("AB", [33]))), cells_call("A"))
        self.assertEqual(answers(asked), [1, 0, 1, -22, 1, -22, 1, -13, 1, -28, 1, -22, 1, -22, 1, -61, 2, 1, 33])

    def test_a_refused_start_and_another_one(self):
        asked = one_behind_another(start(width=49), start([]), start(plain_table(("AB", [33]))), start(),
                                   cells_call("A"))
        self.assertEqual(answers(asked), [1, -22, 1, -22, 1, -61, 1, 0, 2, 1, 33])

    def test_the_width_stands_ahead_of_the_table(self):
        table = flat(plain_table())
        self.assertEqual(answers([0, 48, len(table), *table]), [1, 0])
        self.assertEqual(answers([0, 4294967295, len(table), *table]), [1, -22])
        self.assertEqual(answers([0, 48, 0]), [1, -22])

    def test_rows_with_numbers_like_those_of_calls(self):
        asked = one_behind_another(start(), text_call([1, 2, 3, 0, 0, 1, 1]), text_call([3, 0]), cells_call("!"))
        self.assertEqual(answers(asked), [1, 0, 8, 7, 33, 34, 35, 32, 32, 33, 33, 3, 2, 35, 32, 2, 1, 1])

    def test_what_stands_behind_the_number_that_is_answered(self):
        asked = one_behind_another(start(), open_call(" A\nBa"), line_call(1), touch_call(1, 2), place_call(1),
                                   find_call("B"))
        self.assertEqual(answers(asked), [1, 0, 1, 2, 49, 3, 34, 63, 15, *[0] * 45, 1, 4, 3, 0, 0, 0, 1, 3])

    def test_refusals_about_a_book_stand_alone(self):
        asked = one_behind_another(start(), line_call(0), touch_call(0, 0), place_call(0), find_call("A"),
                                   open_call("A"), line_call(MOST), touch_call(MOST, MOST), place_call(MOST),
                                   find_call("B"), find_call(""), line_call(0))
        self.assertEqual(answers(asked), [1, 0, *[1, -2] * 4, 1, 1, *[1, -2] * 4, 1, -22, 49, 1, 33, *[0] * 47])

    def test_numbers_stand_ahead_of_the_row_and_there_may_be_no_row(self):
        # The numbers that are handed in, one behind another, without the helper's calls.
        asked = start() + [3, 5, 65, 10, 66, 66, 65]
        self.assertEqual(answers(asked + [4, 1])[4:], [49, 3, 34, 34, 33, *[0] * 45])
        self.assertEqual(answers(asked + [5, 1, 2])[4:], [1, 4])
        self.assertEqual(answers(asked + [5, 2, 1])[4:], [1, -2])
        self.assertEqual(answers(asked + [6, 3])[4:], [3, 0, 1, 1])
        self.assertEqual(answers(asked + [7, 1, 2, 66, 65])[4:], [1, 3])
        self.assertEqual(answers(asked + [7, 2, 1, 66])[4:], [1, 2])
        self.assertEqual(answers(asked + [7, 3, 0])[4:], [1, -22])

    def test_what_stands_behind_each_call(self):
        asked = [[4, 4], [5, 5, 6], [6, 7], [7, 6, 2, 5, 4], [4, 0], [5, 0, 0], [6, 0], [7, 0, 1, 65], [1, 1, 65]]
        alone = [[-2], [-2], [-2], [-2], [1, 33] + [0] * 47, [0], [0, 0, 0], [0], [1, 33]]
        for first in range(len(asked)):
            for second in range(len(asked)):
                found = ask(start(), open_call("A"), asked[first], asked[second])
                self.assertEqual(found[2:], [alone[first], alone[second]])

    def test_a_thousand_questions_about_a_book(self):
        calls = [start(), open_call("A" * 499)]
        for place in range(499):
            calls += [place_call(place), touch_call(place // 20, place % 20)]
        self.assertEqual(len(calls), 1000)
        expected = [answer for place in range(499) for answer in ([0, place // 20, place % 20], [place])]
        self.assertEqual(ask(*calls), [[0], [25], *expected])

    def test_a_thousand_calls(self):
        calls = [start()]
        expected = [[0]]
        for number in range(333):
            calls += [cells_call("A" * (number % 5)), text_call([33] * (number % 3)), open_call("\n" * (number % 4))]
            expected += [[number % 5, *[33] * (number % 5)], [number % 3, *[65] * (number % 3)], [1 + number % 4]]
        self.assertEqual(len(calls), 1000)
        self.assertEqual(ask(*calls), expected)

    def test_a_thousand_refused_starts(self):
        self.assertEqual(answers([0, 20, 0] * 1000), [1, -22] * 1000)

    def test_a_list_as_long_as_can_be(self):
        asked = one_behind_another(start(), *[cells_call("A" * 4096)] * 7)
        rest = 30000 - len(asked) - 2
        self.assertGreater(rest, 0)
        asked += cells_call("A" * rest)
        self.assertEqual(len(asked), 30000)
        full = [4097, 4096, *[33] * 4096]
        self.assertEqual(answers(asked), [1, 0, *full * 7, rest + 1, rest, *[33] * rest])

    def test_a_table_of_many_small_entries(self):
        table = [1, 65, 1, 33] * 7000
        self.assertEqual(answers([0, 20, len(table), *table]), [1, -22])


class WhatIsHandedIn(unittest.TestCase):
    CALLS = one_behind_another(start(plain_table(("AB", [51]))), cells_call("AB  C"), text_call([33, 0, 51]),
                               open_call("AB\n C"), cells_call([31]), start(width=5), line_call(0), line_call(2),
                               touch_call(1, 0), touch_call(0, 1), place_call(1), place_call(2), find_call(" C"),
                               find_call("", 7), find_call("A", 1), open_call("D"), line_call(0), find_call("D"))

    def test_the_list_stays_as_it_was(self):
        asked = list(self.CALLS)
        found = answers(asked)
        self.assertEqual(asked, self.CALLS)
        self.assertIsNot(found, asked)

    def test_the_list_is_not_changed_for_a_while_either(self):
        class Watched(list):
            def refuse(self, *values, **more):
                raise AssertionError("the list was changed")
            __setitem__ = __delitem__ = __iadd__ = __imul__ = refuse
            append = extend = insert = pop = remove = clear = reverse = sort = refuse
        self.assertEqual(answers(Watched(self.CALLS)), answers(list(self.CALLS)))

    def test_nothing_is_kept_from_one_time_to_the_next(self):
        first = answers(list(self.CALLS))
        answers(one_behind_another(start(plain_table(("C", [52]))[1:]), start(width=48), cells_call("ABC")))
        self.assertEqual(answers(list(self.CALLS)), first)

    def test_what_is_given_back_is_a_new_list_of_whole_numbers(self):
        found = answers(list(self.CALLS))
        self.assertIs(type(found), list)
        self.assertEqual({type(number) for number in found}, {int})
        found.append(1)
        self.assertEqual(answers(list(self.CALLS)), found[:-1])


if __name__ == "__main__":
    unittest.main()
