"""The proof of one text with its readers and marks: what each call does, and what it answers."""

from proofmarks.asks import STANDS_OPEN
from proofmarks.asks import WITHDRAWN
from proofmarks.asks import change_mark
from proofmarks.asks import gainsay
from proofmarks.asks import keep_mark
from proofmarks.asks import move_mark

GREATEST_WORD = 99999
GREATEST_WEIGHT = 1000
MOST_WORDS = 100
MOST_CHANGE_WORDS = 20
MOST_READERS = 8
MOST_OPEN_MARKS = 10
MOST_MARKS = 60

# The refusals, by the numbers that the document gives them.
UNFIT = -1
MISSING = -2
HINDERED = -4
FULL = -5


def are_words(numbers):
    """Whether each of the numbers is a word."""
    return all([number >= 1 and number <= GREATEST_WORD for number in numbers])


class Proof:
    """A text, the weights of its readers and their marks, each by its number."""

    def __init__(self):
        self.words = []
        self.weights = []
        self.marks = []

    def begins(self, words):
        if len(words) > MOST_WORDS or not are_words(words):
            return [UNFIT]
        self.words = list(words)
        self.weights = []
        self.marks = []
        return [len(words)]

    def add_reader(self, weight):
        if weight < 1 or weight > GREATEST_WEIGHT:
            return [UNFIT]
        if len(self.weights) >= MOST_READERS:
            return [FULL]
        self.weights.append(weight)
        return [len(self.weights) - 1]

    def change(self, reader, start, end, words):
        if not self.has_reader(reader):
            return [MISSING]
        if not self.change_fits(start, end, words):
            return [UNFIT]
        return self.add_mark(change_mark(reader, start, end, words))

    def keep(self, reader, start, end):
        if not self.has_reader(reader):
            return [MISSING]
        if not self.has_words(start, end):
            return [UNFIT]
        return self.add_mark(keep_mark(reader, start, end))

    def move(self, reader, start, end, gap):
        if not self.has_reader(reader):
            return [MISSING]
        if not self.move_fits(start, end, gap):
            return [UNFIT]
        return self.add_mark(move_mark(reader, start, end, gap))

    def withdraw(self, number):
        if number >= len(self.marks):
            return [MISSING]
        mark = self.marks[number]
        if mark.state != STANDS_OPEN:
            return [HINDERED]
        mark.state = WITHDRAWN
        return [0]

    def clashes(self):
        numbers = self.open_marks()
        pairs = []
        for lesser in numbers:
            for greater in numbers:
                if lesser < greater and gainsay(self.marks[lesser], self.marks[greater]):
                    pairs.extend([lesser, greater])
        return [len(pairs) // 2] + pairs

    def has_reader(self, reader):
        return reader < len(self.weights)

    def has_words(self, start, end):
        """Whether there are words from start up to end, at least one."""
        return start < end and end <= len(self.words)

    def change_fits(self, start, end, words):
        if start > end or end > len(self.words):
            return False
        if start == end and len(words) == 0:
            return False
        return len(words) <= MOST_CHANGE_WORDS and are_words(words)

    def move_fits(self, start, end, gap):
        if not self.has_words(start, end) or gap > len(self.words):
            return False
        # At either end of them the words would stand where they stand already.
        return gap < start or gap > end

    def open_marks(self):
        """The numbers of the open marks, in order."""
        return [number for number in range(len(self.marks)) if self.marks[number].state == STANDS_OPEN]

    def add_mark(self, mark):
        if len(self.open_marks()) >= MOST_OPEN_MARKS or len(self.marks) >= MOST_MARKS:
            return [FULL]
        self.marks.append(mark)
        return [len(self.marks) - 1]
