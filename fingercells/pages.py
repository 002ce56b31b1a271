"""What is asked of a new object in one list of whole numbers, answered in one."""

from fingercells.session import Session

START = 0
CELLS = 1
TEXT = 2
BOOK = 3
LINE = 4
TOUCH = 5
PLACE = 6

# Call by call: how many whole numbers stand behind the call's own, and whether
# a row stands behind these.
NUMBERS_AHEAD = (1, 0, 0, 0, 1, 2, 1, 1)
HAS_ROW = (True, True, True, True, False, False, False, True)


def answers(calls):
    session = Session()
    answered = []
    at = 0
    while at < len(calls):
        call = calls[at]
        behind = at + 1 + NUMBERS_AHEAD[call]
        numbers = calls[at + 1:behind]
        row = []
        if HAS_ROW[call]:
            row = calls[behind + 1:behind + 1 + calls[behind]]
            behind += 1 + len(row)
        answer = answer_of_call(session, call, numbers, row)
        answered.append(len(answer))
        answered.extend(answer)
        at = behind
    return answered


def answer_of_call(session, call, numbers, row):
    if call == START:
        return session.fp_start(numbers[0], row)
    if call == CELLS:
        return session.fp_cells(row)
    if call == TEXT:
        return session.fp_text(row)
    if call == BOOK:
        return session.fp_open(row)
    if call == LINE:
        return session.fp_line(numbers[0])
    if call == TOUCH:
        return session.fp_touch(numbers[0], numbers[1])
    if call == PLACE:
        return session.fp_place(numbers[0])
    return session.fp_find(numbers[0], row)
