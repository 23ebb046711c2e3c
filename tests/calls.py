"""Builds lists of calls, and splits what is answered call by call."""

from proofmarks.marks import answers


def begins(*words):
    return [0, len(words), *words]


def reader(weight):
    return [1, weight]


def change(by, i, j, *words):
    return [2, by, i, j, len(words), *words]


def keep(by, i, j):
    return [3, by, i, j]


def move(by, i, j, k):
    return [4, by, i, j, k]


def withdraw(mark):
    return [5, mark]


def clashes():
    return [6]


def carry():
    return [7]


def shown():
    return [8]


def who(place):
    return [9, place]


def mark(number):
    return [10, number]


def gone():
    return [11]


def tested(*marks):
    return [12, len(marks), *marks]


def split(numbers):
    """The answers of the calls, each a list; fails if a count does not fit."""
    found = []
    place = 0
    while place < len(numbers):
        count = numbers[place]
        if count < 1 or place + 1 + count > len(numbers):
            raise AssertionError(f"a wrong count at {place}: {numbers}")
        found.append(numbers[place + 1:place + 1 + count])
        place += 1 + count
    return found


def ask(*calls):
    """The answers to these calls, each a list."""
    if len(calls) > 100:
        raise AssertionError("a list has 100 calls at the most")
    return split(answers([number for call in calls for number in call]))


def last(*calls):
    """The answer to the last of these calls."""
    return ask(*calls)[-1]


def after(calls, *asked):
    """The answers to what is asked behind these calls."""
    return ask(*calls, *asked)[len(calls):]


def text_of(count):
    """The beginning of a text of so many words, all unlike."""
    return begins(*range(1, count + 1))


def on_text(count, *calls):
    """The answers to these calls on a text of so many words, with one reader, 0."""
    return ask(text_of(count), reader(1), *calls)[2:]
