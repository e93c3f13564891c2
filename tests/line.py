"""The one helper of the tests: calls as they stand in a line, their answers apart, and a score laid open."""

from exacttimes.piece import answer_call, answers
from exacttimes.score import Score

GREATEST = 4294967295


def begins(ticks):
    return [0, ticks]


def mark(tick, length=500000, even=0):
    return [1, tick, length, even]


def swing(first, last, pair=2, a=2, b=1):
    return [2, first, last, pair, a, b]


def pedal(first, last):
    return [3, first, last]


def note(voice=0, pitch=60, first=0, length=480, loudness=64, part=100, tied=0):
    return [4, voice, pitch, first, length, loudness, part, tied]


def time(tick):
    return [5, tick]


def at(time):
    return [6, time]


def sounds():
    return [7]


def events():
    return [8]


def moved(ticks):
    return [9, ticks]


def joined(calls):
    return [number for call in calls for number in call]


def asked(*calls):
    """The answers to the calls of one line, a list for each call."""
    given = answers(joined(calls))
    apart = []
    start = 0
    while start < len(given):
        end = start + 1 + given[start]
        apart.append(given[start + 1:end])
        start = end
    return apart


def asked_last(*calls):
    """What the last call of a line answers; the others are there to lead up to it."""
    return asked(*calls)[-1]


def rows(answer):
    """The lists that a call tells behind how many there are, each without its own count."""
    apart = []
    start = 1
    while start < len(answer):
        end = start + 1 + answer[start]
        apart.append(tuple(answer[start + 1:end]))
        start = end
    if len(apart) != answer[0]:
        raise AssertionError(f"{len(apart)} lists where {answer[0]} are told")
    return apart


def times_after(calls, ticks):
    """The times of these ticks: a whole number, or the three numbers where something is left."""
    found = []
    for tick in ticks:
        answer = asked_last(*calls, time(tick))
        if answer[:2] != [0, 3] or len(answer) != 5:
            raise AssertionError(f"not a time: {answer}")
        found.append(answer[2] if answer[3:] == [0, 1] else tuple(answer[2:]))
    return found


def ticks_after(calls, times):
    return [asked_last(*calls, at(time))[0] for time in times]


def sounds_after(*calls):
    return rows(asked_last(*calls, sounds()))


def events_after(*calls):
    return rows(asked_last(*calls, events()))


def score_after(*calls):
    score = Score()
    for call in calls:
        answer_call(score, call[0], call[1:])
    return score


def laid_open(*calls):
    """All that is kept of a piece after these calls, as plain values."""
    score = score_after(*calls)
    return {
        "ticks": score.ticks,
        "marks": [(m.tick, m.length, m.even) for m in score.marks],
        "swings": [(s.first, s.last, s.pair, s.a, s.b) for s in score.swings],
        "pedals": [(p.first, p.last) for p in score.pedals],
        "notes": [
            (n.voice, n.pitch, n.first, n.length, n.loudness, n.part, n.tied)
            for n in score.notes
        ],
    }


AT_BEGINNING = {"ticks": 480, "marks": [(0, 500000, 0)], "swings": [], "pedals": [], "notes": []}

FULL_OF_MARKS = [mark(k) for k in range(1, 50)]
FULL_OF_SWINGS = [swing(10 * k, 10 * k + 10) for k in range(30)]
FULL_OF_PEDALS = [pedal(10 * k, 10 * k + 10) for k in range(30)]
FULL_OF_NOTES = [note(first=k) for k in range(200)]

# A tick lasts 100, so that a hundredth of one lasts 1, and times of notes' ends are whole.
HUNDREDS = [begins(1), mark(0, 100)]
