"""Events: the beginnings and ends of sounds, each at its time to the nearest whole number."""

from exacttimes.fraction import nearest
from exacttimes.sounds import sounds_of
from exacttimes.tempo import Tempo

BEGINNING = 1
END = 0


class Event:
    def __init__(self, time, kind, sound):
        self.time = time
        self.kind = kind
        self.voice = sound.note.voice
        self.pitch = sound.note.pitch
        self.loudness = sound.note.loudness if kind == BEGINNING else 0
        self.number = sound.number


# Ends come first, since END is below BEGINNING.
def order_of_events(event):
    return (event.time, event.kind, event.voice, event.pitch, event.number)


def events_of(score):
    tempo = Tempo(score)
    events = []
    for sound in sounds_of(score):
        beginning = nearest(tempo.time_of(sound.beginning))
        end = nearest(tempo.time_of(sound.ending))
        if end > beginning:
            events.append(Event(beginning, BEGINNING, sound))
            events.append(Event(end, END, sound))
    return sorted(events, key=order_of_events)
