"""Calls on an edited text, handed in as one list of whole numbers and answered by another."""

from editedlex.edited import EditedText

RULE = 1
MATCH = 2
EDIT = 3
COUNTS = 4
TOKEN = 5
AT = 6
FIND = 7
TALLY = 8

# By a call's number: how many whole numbers it has, and whether a row stands behind them.
WHOLE_NUMBERS = {1: 0, 2: 1, 3: 2, 4: 0, 5: 1, 6: 1, 7: 2, 8: 1, 9: 2}
HAS_ROW = {1: True, 2: True, 3: True, 4: False, 5: False, 6: False, 7: False, 8: False, 9: False}


def answers(calls):
    """For each call, in order, how many numbers it answers, and these."""
    edited = EditedText()
    told = []
    place = 0
    while place < len(calls):
        call = calls[place]
        row_place = place + 1 + WHOLE_NUMBERS[call]
        numbers = calls[place + 1:row_place]
        row = []
        place = row_place
        if HAS_ROW[call]:
            place = row_place + 1 + calls[row_place]
            row = calls[row_place + 1:place]
        answer = answer_of(edited, call, numbers, row)
        told.append(len(answer))
        told.extend(answer)
    return told


def answer_of(edited, call, numbers, row):
    if call == RULE:
        return edited.add_rule(row)
    if call == MATCH:
        return edited.longest_match(numbers[0], row)
    if call == EDIT:
        return edited.edit(numbers[0], numbers[1], row)
    if call == COUNTS:
        return edited.counts()
    if call == TOKEN:
        return edited.token(numbers[0])
    if call == AT:
        return edited.token_at(numbers[0])
    if call == FIND:
        return edited.find_token(numbers[0], numbers[1])
    if call == TALLY:
        return edited.tally(numbers[0])
    return edited.text_from(numbers[0], numbers[1])
