"""Sounds: what the notes make once they are tied, cut short, held by a pedal and ended by one another."""

from exacttimes.fraction import is_after
from exacttimes.score import note_end
from exacttimes.tempo import is_within


# A sound goes by its first note and that note's number. Where it begins and ends are places: later places are
# later, so these may be held against one another in the stead of their times.
class Sound:
    def __init__(self, number, note, ending):
        self.number = number
        self.note = note
        self.beginning = (note.first, 1)
        self.ending = ending


def numbers_by_beginning(notes):
    numbers = {}
    for number, note in enumerate(notes):
        # Of several the first by numbers is the one that others are tied to.
        numbers.setdefault((note.voice, note.pitch, note.first), number)
    return numbers


# By a note's number, the number of the note that it's tied to.
def ties_of(notes):
    beginning = numbers_by_beginning(notes)
    ties = {}
    for number, note in enumerate(notes):
        spot = (note.voice, note.pitch, note_end(note))
        if note.tied == 1 and spot in beginning:
            ties[number] = beginning[spot]
    return ties


def last_number(number, ties):
    # Each note begins later than the one that is tied to it, so this comes to an end.
    while number in ties:
        number = ties[number]
    return number


def place_of_end(note, pedals):
    place = (100 * note.first + note.part * note.length, 100)
    for pedal in pedals:
        if is_within(pedal, place):
            return (pedal.last, 1)
    return place


def order_of_striking(sound):
    return (sound.note.voice, sound.note.pitch, sound.note.first, sound.number)


def are_alike(sound, other):
    return sound.note.voice == other.note.voice and sound.note.pitch == other.note.pitch


def end_one_another(sounds):
    struck = sorted(sounds, key=order_of_striking)
    for sound, following in zip(struck, struck[1:]):
        if are_alike(sound, following) and is_after(sound.ending, following.beginning):
            sound.ending = following.beginning


# They are in the order of their notes' numbers.
def sounds_of(score):
    notes = score.notes
    ties = ties_of(notes)
    begun = {}
    for number in ties.values():
        begun[number] = True
    sounds = []
    for number, note in enumerate(notes):
        if number not in begun:
            last = notes[last_number(number, ties)]
            sounds.append(Sound(number, note, place_of_end(last, score.pedals)))
    end_one_another(sounds)
    return sounds
