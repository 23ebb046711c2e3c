"""What marks make of a text when they are carried out, and where the other marks stand in the new one.

A text's word is kept with its story, as (word, bringer, origin): the number of the mark that brought it and its place
among that mark's words, or NOBODY and its place at first. A mark brings its words once, so no two of a text are
equal, and the same words are told from alike ones by ==.
"""

from proofmarks.asks import CHANGE
from proofmarks.asks import KEEP
from proofmarks.asks import MOVE
from proofmarks.asks import change_mark
from proofmarks.asks import keep_mark
from proofmarks.asks import move_mark

NOBODY = -1


class Carried:
    """The new text, and of each gap of the old one where it is in the new one."""

    def __init__(self, text, gaps):
        self.text = text
        self.gaps = gaps


def brought_by(bringer, words):
    """These words with their stories."""
    return [(word, bringer, origin) for origin, word in enumerate(words)]


def bare_words(text):
    """A text's words without their stories."""
    return [entry[0] for entry in text]


def puts_of(text, marks, numbers):
    """What these marks put, by gap."""
    puts = {}
    for number in numbers:
        mark = marks[number]
        # Those that put into one gap ask for the very same, or they would gainsay one another: the first counts.
        if mark.kind == CHANGE:
            puts.setdefault(mark.gap, brought_by(number, mark.words))
        if mark.kind == MOVE:
            puts.setdefault(mark.gap, text[mark.start:mark.end])
    return puts


def takers_of(marks, numbers):
    """Which of these marks takes a word, by the word's place; of those that ask for the very same the first."""
    takers = {}
    for number in numbers:
        mark = marks[number]
        if mark.kind != KEEP:
            for place in range(mark.start, mark.end):
                takers.setdefault(place, number)
    return takers


def carry_out(text, marks, numbers):
    """What these marks, of which no two gainsay one another, make of a text."""
    puts = puts_of(text, marks, numbers)
    takers = takers_of(marks, numbers)
    made = []
    gaps = []
    for place in range(len(text) + 1):
        made.extend(puts.get(place, []))
        gaps.append(len(made))
        if place < len(text) and place not in takers:
            made.append(text[place])
    return Carried(made, gaps)


def gone_words(text, marks, numbers):
    """Of each word that was there at first and that these marks' changes take: its place at first, and who takes it."""
    takers = takers_of(marks, numbers)
    gone = []
    for place, entry in enumerate(text):
        if place in takers and marks[takers[place]].kind == CHANGE and entry[1] == NOBODY:
            gone.append((entry[2], takers[place]))
    return gone


def start_of(words, text):
    """The place from which on these very words stand in a text, beside one another and in order; or None."""
    for place in range(len(text)):
        if text[place:place + len(words)] == words:
            return place
    return None


def followed(mark, text, carried):
    """A mark on a text as it asks in the new one; or None if it is lost."""
    if mark.start == mark.end:
        return change_mark(mark.reader, carried.gaps[mark.gap], carried.gaps[mark.gap], mark.words)
    words = text[mark.start:mark.end]
    start = start_of(words, carried.text)
    if start is None:
        return None
    end = start + len(words)
    # A change puts where its words begin, so it goes with them, wherever they have been moved.
    if mark.kind == CHANGE:
        return change_mark(mark.reader, start, end, mark.words)
    if mark.kind == KEEP:
        return keep_mark(mark.reader, start, end)
    return move_mark(mark.reader, start, end, carried.gaps[mark.gap])
