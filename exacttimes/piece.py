"""A line of calls about one piece, and its answers."""

from exacttimes.events import events_of
from exacttimes.fraction import told
from exacttimes.score import LAST_TICK
from exacttimes.score import NOT_AS_TOLD
from exacttimes.score import Mark
from exacttimes.score import Note
from exacttimes.score import Pedal
from exacttimes.score import Score
from exacttimes.score import Swing
from exacttimes.sounds import sounds_of
from exacttimes.tempo import Tempo

BEGINS = 0
MARK = 1
SWING = 2
PEDAL = 3
NOTE = 4
TIME = 5
AT = 6
SOUNDS = 7
EVENTS = 8
MOVED = 9

# By the call's number: how many numbers stand behind it.
NUMBERS_BEHIND = {0: 1, 1: 3, 2: 5, 3: 2, 4: 7, 5: 1, 6: 1, 7: 0, 8: 0, 9: 1}


def read_mark(numbers):
    return Mark(numbers[0], numbers[1], numbers[2])


def read_swing(numbers):
    return Swing(numbers[0], numbers[1], numbers[2], numbers[3], numbers[4])


def read_pedal(numbers):
    return Pedal(numbers[0], numbers[1])


def read_note(numbers):
    return Note(numbers[0], numbers[1], numbers[2], numbers[3], numbers[4], numbers[5], numbers[6])


# Each list that a call tells has how many numbers it has ahead of it.
def counted(numbers):
    return [len(numbers)] + numbers


def answer_time(score, tick):
    if tick > LAST_TICK:
        return [NOT_AS_TOLD]
    time = Tempo(score).time_of((tick, 1))
    return [0] + counted(told(time))


def answer_sounds(score):
    tempo = Tempo(score)
    sounds = sounds_of(score)
    answer = [len(sounds)]
    for sound in sounds:
        beginning = told(tempo.time_of(sound.beginning))
        end = told(tempo.time_of(sound.ending))
        answer.extend(counted([sound.number] + beginning + end))
    return answer


def answer_events(score):
    events = events_of(score)
    answer = [len(events)]
    for event in events:
        numbers = [event.time, event.kind, event.voice, event.pitch, event.loudness, event.number]
        answer.extend(counted(numbers))
    return answer


# A list is given back, since a call may answer more than one number.
def answer_call(score, call, numbers):
    if call == BEGINS:
        return [score.begin(numbers[0])]
    if call == MARK:
        return [score.put_mark(read_mark(numbers))]
    if call == SWING:
        return [score.put_swing(read_swing(numbers))]
    if call == PEDAL:
        return [score.put_pedal(read_pedal(numbers))]
    if call == NOTE:
        return [score.put_note(read_note(numbers))]
    if call == TIME:
        return answer_time(score, numbers[0])
    if call == AT:
        return [Tempo(score).tick_at((numbers[0], 1))]
    if call == SOUNDS:
        return answer_sounds(score)
    if call == EVENTS:
        return answer_events(score)
    if call == MOVED:
        return [score.move(numbers[0])]
    raise KeyError(call)


def answers(calls):
    score = Score()
    given = []
    start = 0
    while start < len(calls):
        call = calls[start]
        end = start + 1 + NUMBERS_BEHIND[call]
        answer = answer_call(score, call, calls[start + 1:end])
        given.append(len(answer))
        given.extend(answer)
        start = end
    return given
