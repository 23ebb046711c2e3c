"""Many lists of calls, made up by a fixed rule, held against a model: the document once more, written another way.

In the model a call is a tuple: its name, its whole numbers, and its row as a tuple. What is made of a text is found by
sorting: what a mark puts into gap g has the key (g, 0, ..), a word that stays at place p has (p, 1, ..).
"""

import random
import unittest
from itertools import combinations

from proofmarks.marks import answers
from tests.calls import split

NUMBERS = ("begins", "reader", "change", "keep", "move", "withdraw", "clashes", "carry", "shown", "who", "mark", "gone",
           "test")


def flat(call):
    """A call as the interface has it."""
    numbers = [NUMBERS.index(call[0])]
    for part in call[1:]:
        numbers += [len(part), *part] if isinstance(part, tuple) else [part]
    return numbers


class Model:
    def __init__(self):
        self.restart([])

    def restart(self, words):
        self.proof = 0
        self.readers = []
        # Each mark: its reader, its kind, what it asks, its state (a tuple whose first is 0 to 3).
        self.marks = []
        self.text = [(word, "first", place) for place, word in enumerate(words)]
        self.taken = []

    def answer(self, call):
        found = getattr(self, "call_" + call[0])(*call[1:])
        return found if isinstance(found, list) else [found]

    def call_begins(self, words):
        if len(words) > 100 or any(not 0 < word < 100000 for word in words):
            return -1
        self.restart(words)
        return len(words)

    def call_reader(self, weight):
        if weight not in range(1, 1001):
            return -1
        if len(self.readers) == 8:
            return -5
        self.readers.append(weight)
        return len(self.readers) - 1

    def add(self, reader, fits, kind, asked):
        if reader not in range(len(self.readers)):
            return -2
        if not fits:
            return -1
        if len(self.still()) == 10 or len(self.marks) == 60:
            return -5
        self.marks.append([reader, kind, asked, (0,)])
        return len(self.marks) - 1

    def call_change(self, reader, i, j, words):
        fits = i <= j <= len(self.text) and len(words) <= 20 and all(0 < word < 100000 for word in words)
        return self.add(reader, fits and (i < j or len(words) > 0), "change", (i, j, words))

    def call_keep(self, reader, i, j):
        return self.add(reader, i < j <= len(self.text), "keep", (i, j))

    def call_move(self, reader, i, j, k):
        fits = i < j <= len(self.text) and k <= len(self.text) and not i <= k <= j
        return self.add(reader, fits, "move", (i, j, k))

    def call_withdraw(self, number):
        if number not in range(len(self.marks)):
            return -2
        if number not in self.still():
            return -4
        self.marks[number][3] = (3,)
        return 0

    def still(self):
        """The numbers of the marks that are open."""
        return [number for number, mark in enumerate(self.marks) if mark[3] == (0,)]

    def takes(self, number):
        """The places of the words that a mark takes, or keeps."""
        return set(range(*self.marks[number][2][:2]))

    def gap(self, number):
        kind, asked = self.marks[number][1:3]
        return {"change": asked[0], "move": asked[-1], "keep": None}[kind]

    def breaks(self, number, places):
        return bool(self.takes(number) & places) or {self.gap(number), self.gap(number) - 1} <= places

    def clash(self, one, other):
        if self.marks[one][1:3] == self.marks[other][1:3]:
            return False
        one, other = sorted((one, other), key=lambda number: self.marks[number][1] == "keep")
        if self.marks[one][1] == "keep":
            return False
        if self.breaks(one, self.takes(other)):
            return True
        if self.marks[other][1] == "keep":
            return False
        return self.gap(one) == self.gap(other) or self.breaks(other, self.takes(one))

    def call_clashes(self):
        pairs = [pair for pair in combinations(self.still(), 2) if self.clash(*pair)]
        return [len(pairs)] + [number for pair in pairs for number in pair]

    def made_by(self, numbers):
        """The new text with the keys of its words: a list of (key, word)."""
        unlike = [n for n in numbers if not any(m < n and self.marks[m][1:3] == self.marks[n][1:3] for m in numbers)]
        active = [number for number in unlike if self.marks[number][1] != "keep"]
        stay = set(range(len(self.text))).difference(*[self.takes(number) for number in active])
        keyed = [((place, 1, 0), self.text[place]) for place in stay]
        for number in active:
            kind, asked = self.marks[number][1:3]
            words = self.text[asked[0]:asked[1]]
            if kind == "change":
                words = [(word, number, index) for index, word in enumerate(asked[2])]
            keyed += [((self.gap(number), 0, index), word) for index, word in enumerate(words)]
        return sorted(keyed)

    def chosen(self):
        still = self.still()
        clashing = [pair for pair in combinations(still, 2) if self.clash(*pair)]
        best = None
        for mask in range(1 << len(still)):
            numbers = [number for index, number in enumerate(still) if mask >> index & 1]
            if not any(one in numbers and other in numbers for one, other in clashing):
                weight = sum(self.readers[self.marks[number][0]] for number in numbers)
                rank = (weight, [number in numbers for number in still])
                if best is None or rank > best[0]:
                    best = (rank, numbers)
        return best[0][0], best[1]

    def call_carry(self):
        weight, chosen = self.chosen()
        keyed = self.made_by(chosen)
        if len(keyed) > 100:
            return -5
        changes = [number for number in chosen if self.marks[number][1] == "change"]
        for place, word in enumerate(self.text):
            by = [number for number in changes if place in self.takes(number)]
            if by and word[1] == "first":
                self.taken += [word[2], by[0]]
        for number in self.still():
            if number in chosen:
                self.marks[number][3] = (1, self.proof)
            else:
                self.follow(number, keyed)
        self.text = [word for key, word in keyed]
        self.proof += 1
        return [weight, len(chosen), *chosen]

    def follow(self, number, keyed):
        """Brings a mark that is not chosen into the new text."""
        kind, asked = self.marks[number][1:3]
        gap = None if kind == "keep" else sum(key < (self.gap(number), 1) for key, word in keyed)
        if asked[0] == asked[1]:
            self.marks[number][2] = (gap, gap, asked[2])
            return
        where = {word: place for place, (key, word) in enumerate(keyed)}
        places = [where.get(self.text[place]) for place in sorted(self.takes(number))]
        if None in places or any(behind - ahead != 1 for ahead, behind in zip(places, places[1:])):
            self.marks[number][3] = (2, self.proof)
            return
        rest = {"change": asked[2:], "keep": (), "move": (gap,)}[kind]
        self.marks[number][2] = (places[0], places[-1] + 1, *rest)

    def call_shown(self):
        return [len(self.text)] + [word[0] for word in self.text]

    def call_who(self, place):
        if place not in range(len(self.text)):
            return -6
        by, origin = self.text[place][1:]
        return [0, origin] if by == "first" else [1, by, self.marks[by][0]]

    def call_mark(self, number):
        if number not in range(len(self.marks)):
            return -2
        reader, kind, asked, state = self.marks[number]
        if state != (0,):
            return [state[0], reader, *state[1:]]
        if kind == "change":
            return [0, reader, 0, *asked[:2], len(asked[2]), *asked[2]]
        return [0, reader, {"keep": 1, "move": 2}[kind], *asked]

    def call_gone(self):
        return [len(self.taken) // 2] + self.taken

    def call_test(self, numbers):
        if set(numbers) - set(self.still()):
            return -2
        if any(self.clash(*pair) for pair in combinations(numbers, 2)):
            return -4
        words = [word[0] for key, word in self.made_by(numbers)]
        return [len(words)] + words

class Maker:
    """Makes up lists of calls, and keeps what the model answers to them."""

    def __init__(self, seed):
        self.chance = random.Random(seed)
        self.model = Model()
        self.calls = []
        self.wanted = []

    def add(self, *call):
        self.calls.append(call)
        self.wanted.append(self.model.answer(call))

    def words(self, most):
        # Few sorts of words, so that many are alike.
        return tuple(self.chance.randint(1, 3) for count in range(self.chance.randint(0, most)))

    def span(self, wide=4):
        last = len(self.model.text)
        i = self.chance.randint(0, last)
        return i, min(last, i + self.chance.randint(0, wide))

    def add_mark(self):
        kind = self.chance.choice(("change", "change", "change", "keep", "move", "move", "move"))
        reader = self.chance.randint(0, len(self.model.readers) - (self.chance.random() < 0.97))
        i, j = self.span()
        if kind == "change":
            self.add(kind, reader, i, j, self.words(3))
        elif kind == "keep":
            self.add(kind, reader, i, j)
        else:
            self.add(kind, reader, i, j, self.chance.randint(0, len(self.model.text)))

    def add_like_mark(self):
        """A mark that asks the very same as an open one, by whichever reader."""
        still = self.model.still()
        if still:
            kind, asked = self.model.marks[self.chance.choice(still)][1:3]
            self.add(kind, self.chance.randrange(len(self.model.readers)), *asked)

    def add_test(self):
        still = self.model.still()
        self.chance.shuffle(still)
        agreeing = []
        for number in still:
            if self.chance.random() < 0.1 or not any(self.model.clash(number, other) for other in agreeing):
                agreeing.append(number)
        if self.chance.random() < 0.1 and self.model.marks:
            agreeing.append(self.chance.randint(0, len(self.model.marks)))
        self.add("test", tuple(dict.fromkeys(agreeing)))

    def look_round(self):
        """Ask for all there is to be told."""
        self.add("shown")
        self.add("gone")
        self.add("clashes")
        for place in range(self.chance.randint(0, 4), len(self.model.text) + 1, 5):
            self.add("who", place)
        self.add("mark", self.chance.randint(0, len(self.model.marks)))
        self.ask_open_marks()

    def ask_open_marks(self):
        for number in self.model.still():
            self.add("mark", number)

    def line(self):
        most = self.chance.choice((3, 6, 10, 25))
        self.add("begins", self.words(most))
        for count in range(self.chance.randint(1, 4)):
            self.add("reader", self.chance.choice((1, 1, 2, 3, 1000)))
        while len(self.calls) < 70:
            for count in range(self.chance.randint(1, 7)):
                self.add_mark() if self.chance.random() < 0.85 else self.add_like_mark()
            if self.chance.random() < 0.3:
                self.add_test()
            if self.chance.random() < 0.2:
                self.add("withdraw", self.chance.randint(0, len(self.model.marks)))
            if self.wanted_count("carry") < 20:
                self.add("carry")
            self.ask_open_marks()
            if self.chance.random() < 0.3:
                self.look_round()
        del self.calls[95:], self.wanted[95:]
        return self

    def wanted_count(self, name):
        return sum(call[0] == name for call in self.calls)


class AgainstTheModel(unittest.TestCase):
    def hold(self, maker):
        found = split(answers([number for call in maker.calls for number in flat(call)]))
        for place, call in enumerate(maker.calls):
            if found[place] != maker.wanted[place]:
                self.fail(f"{call}: {found[place]}, not {maker.wanted[place]}, behind {maker.calls[:place]}")
        self.assertEqual(len(found), len(maker.calls))

    def test_made_up_lists(self):
        seen = {}
        for seed in range(400):
            maker = Maker(seed).line()
            self.hold(maker)
            for call, wanted in zip(maker.calls, maker.wanted):
                for sort in self.sorts(call, wanted):
                    seen[sort] = seen.get(sort, 0) + 1
        # What the lists are made up for does come about in them.
        for sort in (
            "carried", "several carried", "carried out told", "lost told", "withdrawn told", "change told", "keep told",
            "move told", "move to where it stands told", "brought", "there at first", "no such word", "gone", "tested",
            "several tested", "test -2", "test -4", "clash",
        ):
            self.assertGreater(seen.get(sort, 0), 10, (sort, seen))

    def sorts(self, call, wanted):
        """Names for what an answer shows, to be counted."""
        name = call[0]
        if name == "carry" and len(wanted) > 1:
            return ["carried"] + ["several carried"] * (wanted[1] > 1)
        if name == "mark" and wanted[0] > 0:
            return [("carried out told", "lost told", "withdrawn told")[wanted[0] - 1]]
        if name == "mark" and wanted[0] == 0:
            stands = wanted[2] == 2 and wanted[3] <= wanted[5] <= wanted[4]
            return [("change told", "keep told", "move told")[wanted[2]]] + ["move to where it stands told"] * stands
        if name == "who":
            return [{0: "there at first", 1: "brought", -6: "no such word"}[wanted[0]]]
        if name == "test" and wanted[0] < 0:
            return [f"test {wanted[0]}"]
        if name == "test":
            return ["tested"] + ["several tested"] * (len(call[1]) > 2)
        if name in ("gone", "clashes") and wanted[0] > 0:
            return [{"gone": "gone", "clashes": "clash"}[name]]
        return []

    def test_long_texts(self):
        """Texts of about a hundred words, so that a carry is now and then refused."""
        refused = 0
        for seed in range(40):
            maker = Maker(seed)
            maker.add("begins", tuple(range(1, 91 + seed % 11)))
            maker.add("reader", 1)
            maker.add("reader", 2)
            while len(maker.calls) < 60:
                for count in range(3):
                    i, j = maker.span(6)
                    maker.add("change", maker.chance.randint(0, 1), i, j, maker.words(9))
                maker.add("carry")
                refused += maker.wanted[-1] == [-5]
                maker.add("shown")
                maker.add("mark", maker.chance.randint(0, len(maker.model.marks)))
            self.hold(maker)
        self.assertGreater(refused, 20)


if __name__ == "__main__":
    unittest.main()
