"""Tempo: at what time a place is reached, and which tick at a time. Places and times are fractions."""

from exacttimes.fraction import is_after
from exacttimes.score import LAST_TICK


# From one mark on: how long a quarter lasts there, by how much that rises over how many ticks, and what has
# passed until there, twice and times the quarter's ticks, as then it is whole.
class Stretch:
    def __init__(self, tick, length, rise, over, passed):
        self.tick = tick
        self.length = length
        self.rise = rise
        self.over = over
        self.passed = passed


def stretches_of(marks):
    stretches = []
    passed = 0
    for mark, following in zip(marks, marks[1:]):
        over = following.tick - mark.tick
        rise = following.length - mark.length if mark.even == 1 else 0
        stretches.append(Stretch(mark.tick, mark.length, rise, over, passed))
        passed = passed + (2 * mark.length + rise) * over
    # The last one stays as it is, even or not.
    stretches.append(Stretch(marks[-1].tick, marks[-1].length, 0, 1, passed))
    return stretches


# A span is a swing or a pedal: both go from first up to, but not with, last.
def is_within(span, place):
    return span.first * place[1] <= place[0] < span.last * place[1]


def swung_by(swing, place):
    upper = place[0]
    lower = place[1]
    pair = swing.pair * lower
    behind = (upper - swing.first * lower) % pair
    shares = swing.a + swing.b
    if 2 * behind <= pair:
        reached = 2 * behind * swing.a
    else:
        reached = pair * swing.a + (2 * behind - pair) * swing.b
    return ((upper - behind) * shares + reached, lower * shares)


# Made anew for each call that asks it, so it never lags behind the score.
class Tempo:
    def __init__(self, score):
        self.ticks = score.ticks
        self.stretches = stretches_of(score.marks)
        self.swings = score.swings

    def swung(self, place):
        for swing in self.swings:
            if is_within(swing, place):
                return swung_by(swing, place)
        return place

    def stretch_at(self, place):
        found = self.stretches[0]
        for stretch in self.stretches:
            if stretch.tick * place[1] <= place[0]:
                found = stretch
        return found

    def time_of(self, place):
        spot = self.swung(place)
        stretch = self.stretch_at(spot)
        lower = spot[1]
        behind = spot[0] - stretch.tick * lower
        # All of it is reckoned twice, and over the square of the place's lower number, so that it stays whole.
        passed = stretch.passed * lower * lower * stretch.over
        since = 2 * stretch.length * behind * lower * stretch.over + stretch.rise * behind * behind
        return (passed + since, 2 * lower * lower * stretch.over * self.ticks)

    # Later places are later, so the ticks may be halved again and again.
    def tick_at(self, time):
        low = 0
        high = LAST_TICK
        while low < high:
            middle = (low + high + 1) // 2
            if is_after(self.time_of((middle, 1)), time):
                high = middle - 1
            else:
                low = middle
        return low
