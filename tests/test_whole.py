"""What the document promises over the whole program."""

import random
import unittest
from itertools import permutations

from tests.calls import (
    after, ask, begins, carry, change, clashes, gone, keep, mark, move, reader, shown, tested, text_of, who, withdraw,
)


class BeginsAnew(unittest.TestCase):
    CALLS = [
        text_of(5), reader(3), reader(1), change(0, 0, 1, 7), change(1, 0, 2), change(1, 2, 2, 8), keep(0, 1, 3), carry(),
        change(0, 0, 1), carry(), keep(1, 0, 1),
    ]

    def test_behind_carries(self):
        found = after(self.CALLS, gone(), begins(4, 5), shown(), gone(), clashes(), mark(0), who(0), who(2), carry())
        self.assertEqual(found[0], [1, 0, 0])
        self.assertEqual(found[1:], [[2], [2, 4, 5], [0], [0], [-2], [0, 0], [-6], [0, 0]])

    def test_proofs_are_numbered_from_0_again(self):
        found = after(self.CALLS, begins(4, 5), reader(1), change(0, 0, 1), keep(0, 0, 1), carry(), mark(0), mark(1), gone())
        self.assertEqual(found[2:], [[0], [1], [1, 1, 0], [1, 0, 0], [2, 0, 0], [1, 0, 0]])

    def test_as_if_it_were_the_first_call(self):
        calls = [text_of(4), reader(2), reader(1), change(0, 1, 2, 7), change(1, 1, 3), move(1, 3, 4, 0), carry()]
        calls += [shown(), gone(), who(0), who(1), mark(0), mark(1), mark(2), mark(3), carry(), mark(2), reader(1)]
        self.assertEqual(after(self.CALLS, *calls), ask(*calls))

    def test_refused_changes_nothing(self):
        asked = [shown(), gone(), clashes(), *[mark(number) for number in range(7)], who(0), who(1), carry(), mark(5)]
        self.assertEqual(after(self.CALLS, begins(4, 0), *asked), [[-1]] + after(self.CALLS, *asked))


class AtOnceIsAsOneAfterAnother(unittest.TestCase):
    WORDS = 7

    def made_up(self, chance):
        """A change or a move by reader 0."""
        while True:
            i = chance.randint(0, self.WORDS)
            j = chance.randint(i, min(self.WORDS, i + 2))
            k = chance.randint(0, self.WORDS)
            if chance.random() < 0.5 and i < j and not i <= k <= j:
                return move(0, i, j, k)
            words = [chance.randint(20, 99) for count in range(chance.randint(0, 2))]
            if i < j or words:
                return change(0, i, j, *words)

    def agreeing(self, chance, count):
        """Unlike marks of which no two gainsay one another."""
        marks = []
        while len(marks) < count:
            marks.append(self.made_up(chance))
            if marks[-1] in marks[:-1] or ask(text_of(self.WORDS), reader(1), *marks, clashes())[-1] != [0]:
                marks.pop()
        return marks

    def test_whatever_the_order_told(self):
        chance = random.Random(1)
        for count in range(60):
            marks = self.agreeing(chance, 3)
            orders = [tested(*order) for order in permutations(range(3))]
            found = after([text_of(self.WORDS), reader(1), *marks], *orders, carry(), shown())
            self.assertEqual(found[:6], [found[-1]] * 6, marks)
            self.assertEqual(found[6], [3, 3, 0, 1, 2])

    def test_one_is_held_back_and_follows(self):
        """All but the last are carried out with a keep of the last one's words, then the last one, where it stands."""
        chance = random.Random(2)
        held = 0
        while held < 60:
            marks = self.agreeing(chance, 3)
            i, j = marks[2][2:4]
            if i < j:
                held += 1
                calls = [text_of(self.WORDS), reader(1), reader(100), *marks]
                at_once = after(calls, carry(), shown())
                one_by_one = after(calls, keep(1, i, j), carry(), carry(), shown())
                self.assertEqual(at_once[0], [3, 3, 0, 1, 2])
                self.assertEqual(one_by_one[1:3], [[102, 3, 0, 1, 3], [1, 1, 2]])
                self.assertEqual(one_by_one[-1], at_once[-1], marks)


class NothingFromNowhere(unittest.TestCase):
    def test_every_word_was_there_or_was_asked_for_and_none_goes_unasked(self):
        chance = random.Random(3)
        for count in range(40):
            first = [chance.randint(1, 5) for place in range(8)]
            calls = [begins(*first), reader(1), reader(2)]
            brought = []
            while len(calls) < 35:
                i, j = sorted((chance.randint(0, 6), chance.randint(0, 6)))
                words = [chance.randint(1, 5) for place in range(chance.randint(0, 2))]
                by = chance.randint(0, 1)
                calls.append(chance.choice([change(by, i, j, *words), move(by, i, j, chance.randint(0, 6)), carry()]))
            answered = ask(*calls)
            for call, answer in zip(calls, answered):
                if call[0] in (2, 4) and answer[0] >= 0:
                    brought.append(call[5:] if call[0] == 2 else [])
            text = after(calls, shown())[0][1:]
            room = 100 - len(calls) - 1
            stories = after(calls, *[who(place) for place in range(len(text))][:room], gone())
            there = []
            for word, story in zip(text, stories[:-1]):
                if story[0] == 0:
                    self.assertEqual(word, first[story[1]])
                    there.append(story[1])
                else:
                    self.assertIn(word, brought[story[1]])
            self.assertEqual(sorted(there + stories[-1][1::2]), list(range(8)))
            for taker in stories[-1][2::2]:
                self.assertEqual(after(calls, mark(taker))[0][0], 1)


class Withdrawn(unittest.TestCase):
    def test_a_withdrawn_mark_is_never_carried_out(self):
        calls = [text_of(3), reader(9), reader(1), change(0, 0, 3), change(1, 0, 1, 7), withdraw(0), carry()]
        self.assertEqual(after(calls, shown(), mark(0), mark(1)), [[3, 7, 2, 3], [3, 0], [1, 1, 0]])


if __name__ == "__main__":
    unittest.main()
