"""A line of calls about one piece, and its answers."""

from exacttimes.score import Mark
from exacttimes.score import Note
from exacttimes.score import Pedal
from exacttimes.score import Score
from exacttimes.score import Swing

BEGINS = 0
MARK = 1
SWING = 2
PEDAL = 3
NOTE = 4

# By the call's number: how many numbers stand behind it.
NUMBERS_BEHIND = {0: 1, 1: 3, 2: 5, 3: 2, 4: 7}


def read_mark(numbers):
    return Mark(numbers[0], numbers[1], numbers[2])


def read_swing(numbers):
    return Swing(numbers[0], numbers[1], numbers[2], numbers[3], numbers[4])


def read_pedal(numbers):
    return Pedal(numbers[0], numbers[1])


def read_note(numbers):
    return Note(numbers[0], numbers[1], numbers[2], numbers[3], numbers[4], numbers[5], numbers[6])


# A list is given back, since a call may answer more than one number.
def answer_call(score, call, numbers):
    if call == BEGINS:
        return [score.begin(numbers[0])]
    if call == MARK:
        return [score.put_mark(read_mark(numbers))]
    if call == SWING:
        return [score.put_swing(read_swing(numbers))]
    if call == PEDAL:
        return [score.put_pedal(read_pedal(numbers))]
    if call == NOTE:
        return [score.put_note(read_note(numbers))]
    raise KeyError(call)


def answers(calls):
    score = Score()
    given = []
    start = 0
    while start < len(calls):
        call = calls[start]
        end = start + 1 + NUMBERS_BEHIND[call]
        answer = answer_call(score, call, calls[start + 1:end])
        given.append(len(answer))
        given.extend(answer)
        start = end
    return given
