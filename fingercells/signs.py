"""Letters, blanks, line ends and the empty cell, and lists that are cut at them."""

LINE_END = 10
BLANK = 32
FIRST_LETTER = 33
LAST_LETTER = 126
EMPTY_CELL = 0
LAST_CELL = 63


def is_letter(number):
    return FIRST_LETTER <= number <= LAST_LETTER


# Marks side by side, and marks at an end, leave pieces of nothing: each mark
# stands between two pieces, so that all of them can be told from the pieces.
def pieces(numbers, mark):
    found = []
    start = 0
    for place, number in enumerate(numbers):
        if number == mark:
            found.append(tuple(numbers[start:place]))
            start = place + 1
    found.append(tuple(numbers[start:]))
    return found
