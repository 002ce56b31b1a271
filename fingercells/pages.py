"""What is asked of a new object in one list of whole numbers, answered in one."""

from fingercells.session import Session

START = 0
CELLS = 1
TEXT = 2

# How many whole numbers stand ahead of the row, call by call.
NUMBERS_AHEAD = (1, 0, 0, 0)


def answers(calls):
    session = Session()
    answered = []
    at = 0
    while at < len(calls):
        call = calls[at]
        row_begin = at + 2 + NUMBERS_AHEAD[call]
        row_end = row_begin + calls[row_begin - 1]
        answer = answer_of_call(session, call, calls[at + 1:row_begin - 1], calls[row_begin:row_end])
        answered.append(len(answer))
        answered.extend(answer)
        at = row_end
    return answered


def answer_of_call(session, call, numbers, row):
    if call == START:
        return session.fp_start(numbers[0], row)
    if call == CELLS:
        return session.fp_cells(row)
    if call == TEXT:
        return session.fp_text(row)
    return session.fp_open(row)
