"""The proof of one text with its readers and marks: what each call does, and what it answers."""

from proofmarks.asks import CARRIED_OUT
from proofmarks.asks import LOST
from proofmarks.asks import STANDS_OPEN
from proofmarks.asks import WITHDRAWN
from proofmarks.asks import asked_by
from proofmarks.asks import change_mark
from proofmarks.asks import clashing_pairs
from proofmarks.asks import keep_mark
from proofmarks.asks import move_mark
from proofmarks.carried import NOBODY
from proofmarks.carried import bare_words
from proofmarks.carried import brought_by
from proofmarks.carried import carry_out
from proofmarks.carried import followed
from proofmarks.carried import gone_words
from proofmarks.choice import weight_of
from proofmarks.choice import weightiest

GREATEST_WORD = 99999
GREATEST_WEIGHT = 1000
MOST_WORDS = 100
MOST_CHANGE_WORDS = 20
MOST_READERS = 8
MOST_OPEN_MARKS = 10
MOST_MARKS = 60

# The refusals, by the numbers that the document gives them.
UNFIT = -1
MISSING = -2
HINDERED = -4
FULL = -5
NO_WORD = -6

# What who answers first.
WAS_THERE = 0
WAS_BROUGHT = 1


def are_words(numbers):
    """Whether each of the numbers is a word."""
    return all([number >= 1 and number <= GREATEST_WORD for number in numbers])


def told_in_pairs(pairs):
    """How many pairs there are, then each of them."""
    told = [len(pairs)]
    for pair in pairs:
        told.extend(pair)
    return told


def told_words(text):
    """How many words a text has, then they."""
    return [len(text)] + bare_words(text)


class Proof:
    """A text, the weights of its readers and their marks, each by its number."""

    def __init__(self):
        self.text = []
        self.weights = []
        self.marks = []
        self.number = 0
        # Of each word that is gone its place at first and the mark that took it, as they went.
        self.losses = []

    def begins(self, words):
        if len(words) > MOST_WORDS or not are_words(words):
            return [UNFIT]
        self.text = brought_by(NOBODY, words)
        self.weights = []
        self.marks = []
        self.number = 0
        self.losses = []
        return [len(words)]

    def add_reader(self, weight):
        if weight < 1 or weight > GREATEST_WEIGHT:
            return [UNFIT]
        if len(self.weights) >= MOST_READERS:
            return [FULL]
        self.weights.append(weight)
        return [len(self.weights) - 1]

    def change(self, reader, start, end, words):
        if not self.has_reader(reader):
            return [MISSING]
        if not self.change_fits(start, end, words):
            return [UNFIT]
        return self.add_mark(change_mark(reader, start, end, words))

    def keep(self, reader, start, end):
        if not self.has_reader(reader):
            return [MISSING]
        if not self.has_words(start, end):
            return [UNFIT]
        return self.add_mark(keep_mark(reader, start, end))

    def move(self, reader, start, end, gap):
        if not self.has_reader(reader):
            return [MISSING]
        if not self.move_fits(start, end, gap):
            return [UNFIT]
        return self.add_mark(move_mark(reader, start, end, gap))

    def withdraw(self, number):
        if not self.has_mark(number):
            return [MISSING]
        if not self.stands_open(number):
            return [HINDERED]
        mark = self.marks[number]
        mark.state = WITHDRAWN
        return [0]

    def clashes(self):
        return told_in_pairs(clashing_pairs(self.marks, self.open_marks()))

    def carry(self):
        chosen = weightiest(self.marks, self.weights, self.open_marks())
        carried = carry_out(self.text, self.marks, chosen)
        if len(carried.text) > MOST_WORDS:
            return [FULL]
        self.losses.extend(gone_words(self.text, self.marks, chosen))
        for number in self.open_marks():
            if number in chosen:
                self.close_mark(number, CARRIED_OUT)
            else:
                self.follow_mark(number, carried)
        self.text = carried.text
        self.number += 1
        return [weight_of(self.marks, self.weights, chosen), len(chosen)] + chosen

    def shown(self):
        return told_words(self.text)

    def who(self, place):
        if place >= len(self.text):
            return [NO_WORD]
        bringer = self.text[place][1]
        if bringer == NOBODY:
            return [WAS_THERE, self.text[place][2]]
        return [WAS_BROUGHT, bringer, self.marks[bringer].reader]

    def tell_mark(self, number):
        if not self.has_mark(number):
            return [MISSING]
        mark = self.marks[number]
        told = [mark.state, mark.reader]
        if mark.state == STANDS_OPEN:
            return told + asked_by(mark)
        if mark.state == WITHDRAWN:
            return told
        return told + [mark.closed_in]

    def gone(self):
        return told_in_pairs(self.losses)

    def test(self, numbers):
        if not all([self.has_mark(number) and self.stands_open(number) for number in numbers]):
            return [MISSING]
        if len(clashing_pairs(self.marks, numbers)) > 0:
            return [HINDERED]
        # Carried out at once is as one after another, so the order told makes no other text.
        return told_words(carry_out(self.text, self.marks, numbers).text)

    def has_reader(self, reader):
        return reader < len(self.weights)

    def has_mark(self, number):
        return number < len(self.marks)

    def stands_open(self, number):
        return self.marks[number].state == STANDS_OPEN

    def has_words(self, start, end):
        """Whether there are words from start up to end, at least one."""
        return start < end and end <= len(self.text)

    def change_fits(self, start, end, words):
        if start > end or end > len(self.text):
            return False
        if start == end and len(words) == 0:
            return False
        return len(words) <= MOST_CHANGE_WORDS and are_words(words)

    def move_fits(self, start, end, gap):
        if not self.has_words(start, end) or gap > len(self.text):
            return False
        # At either end of them the words would stand where they stand already.
        return gap < start or gap > end

    def open_marks(self):
        """The numbers of the open marks, in order."""
        return [number for number in range(len(self.marks)) if self.stands_open(number)]

    def add_mark(self, mark):
        if len(self.open_marks()) >= MOST_OPEN_MARKS or len(self.marks) >= MOST_MARKS:
            return [FULL]
        self.marks.append(mark)
        return [len(self.marks) - 1]

    def close_mark(self, number, state):
        mark = self.marks[number]
        mark.state = state
        mark.closed_in = self.number

    def follow_mark(self, number, carried):
        """Bring an open mark into the new text, or lose it."""
        mark = followed(self.marks[number], self.text, carried)
        if mark is None:
            self.close_mark(number, LOST)
        else:
            self.marks[number] = mark
