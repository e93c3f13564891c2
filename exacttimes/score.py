"""The score: what is written of a piece so far, and which additions it refuses."""

NOT_AS_TOLD = -1
IN_COMMON = -3
TOO_MANY = -5

LAST_TICK = 1000000
GREATEST_QUARTER = 960
LONGEST_QUARTER = 10000000
GREATEST_SHARE = 20
GREATEST_VOICE = 15
GREATEST_PITCH = 127
GREATEST_LOUDNESS = 127
GREATEST_PART = 100

MOST_MARKS = 50
MOST_SPANS = 30
MOST_NOTES = 200

FIRST_TICKS = 480
FIRST_LENGTH = 500000


# From its tick on a quarter lasts length; even is 1 where that goes in a straight line to the next mark's.
class Mark:
    def __init__(self, tick, length, even):
        self.tick = tick
        self.length = length
        self.even = even


# From first up to, but not with, last each pair of ticks is shared out as a to b.
class Swing:
    def __init__(self, first, last, pair, a, b):
        self.first = first
        self.last = last
        self.pair = pair
        self.a = a
        self.b = b


# It is down from first up to, but not with, last.
class Pedal:
    def __init__(self, first, last):
        self.first = first
        self.last = last


# Here first is its first tick; tied is 1 or 0.
class Note:
    def __init__(self, voice, pitch, first, length, loudness, part, tied):
        self.voice = voice
        self.pitch = pitch
        self.first = first
        self.length = length
        self.loudness = loudness
        self.part = part
        self.tied = tied


def mark_tick(mark):
    return mark.tick


def mark_is_as_told(mark):
    return mark.tick <= LAST_TICK and 1 <= mark.length <= LONGEST_QUARTER


# A span is a swing or a pedal: both go from first up to, but not with, last.
def span_is_as_told(span):
    return span.first < span.last <= LAST_TICK


def pairs_fit(swing):
    # The least pair is asked for first: a pair of 0 is even, but nothing can be divided by it.
    if swing.pair < 2 or swing.pair % 2 != 0:
        return False
    return (swing.last - swing.first) % swing.pair == 0


def swing_is_as_told(swing):
    if not span_is_as_told(swing) or not pairs_fit(swing):
        return False
    return 1 <= swing.a <= GREATEST_SHARE and 1 <= swing.b <= GREATEST_SHARE


def note_end(note):
    return note.first + note.length


def note_is_as_told(note):
    if note.voice > GREATEST_VOICE or note.pitch > GREATEST_PITCH:
        return False
    if note.length < 1 or note_end(note) > LAST_TICK:
        return False
    return 1 <= note.loudness <= GREATEST_LOUDNESS and 1 <= note.part <= GREATEST_PART


def has_tick_in_common(span, others):
    for other in others:
        # A last tick is not the span's own, so one may begin where another ends.
        if span.first < other.last and other.first < span.last:
            return True
    return False


# Swings and pedals are refused alike once their own numbers are as told.
def put_span(spans, span):
    if has_tick_in_common(span, spans):
        return IN_COMMON
    if len(spans) >= MOST_SPANS:
        return TOO_MANY
    spans.append(span)
    return len(spans)


def later_mark(mark, ticks):
    return Mark(mark.tick + ticks, mark.length, mark.even)


def later_swing(swing, ticks):
    return Swing(swing.first + ticks, swing.last + ticks, swing.pair, swing.a, swing.b)


def later_pedal(pedal, ticks):
    return Pedal(pedal.first + ticks, pedal.last + ticks)


def later_note(note, ticks):
    first = note.first + ticks
    return Note(note.voice, note.pitch, first, note.length, note.loudness, note.part, note.tied)


# Marks are kept in the order of their ticks, since one's length may go to the next one's;
# notes in the order in which they were told, since that is how they are numbered.
class Score:
    def __init__(self):
        self.clear_to(FIRST_TICKS)

    def clear_to(self, ticks):
        self.ticks = ticks
        self.marks = [Mark(0, FIRST_LENGTH, 0)]
        self.swings = []
        self.pedals = []
        self.notes = []

    def begin(self, ticks):
        if not 1 <= ticks <= GREATEST_QUARTER:
            return NOT_AS_TOLD
        self.clear_to(ticks)
        return 0

    def put_mark(self, mark):
        if not mark_is_as_told(mark):
            return NOT_AS_TOLD
        marks = [other for other in self.marks if other.tick != mark.tick]
        if len(marks) >= MOST_MARKS:
            return TOO_MANY
        marks.append(mark)
        self.marks = sorted(marks, key=mark_tick)
        return len(marks)

    def put_swing(self, swing):
        if not swing_is_as_told(swing):
            return NOT_AS_TOLD
        return put_span(self.swings, swing)

    def put_pedal(self, pedal):
        if not span_is_as_told(pedal):
            return NOT_AS_TOLD
        return put_span(self.pedals, pedal)

    def put_note(self, note):
        if not note_is_as_told(note):
            return NOT_AS_TOLD
        if len(self.notes) >= MOST_NOTES:
            return TOO_MANY
        self.notes.append(note)
        return len(self.notes) - 1

    def farthest_tick(self):
        ticks = [mark.tick for mark in self.marks]
        ticks.extend([span.last for span in self.swings + self.pedals])
        ticks.extend([note_end(note) for note in self.notes])
        return max(ticks)

    def move(self, ticks):
        if self.farthest_tick() + ticks > LAST_TICK:
            return NOT_AS_TOLD
        if ticks == 0:
            return 0
        # The mark that comes to stand at 0 is one more: the one that stood there is later now.
        if len(self.marks) >= MOST_MARKS:
            return TOO_MANY
        first = Mark(0, self.marks[0].length, 0)
        self.marks = [first] + [later_mark(mark, ticks) for mark in self.marks]
        self.swings = [later_swing(swing, ticks) for swing in self.swings]
        self.pedals = [later_pedal(pedal, ticks) for pedal in self.pedals]
        self.notes = [later_note(note, ticks) for note in self.notes]
        return 0
