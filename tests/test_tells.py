import unittest
from itertools import permutations

from tests.calls import (
    after, ask, begins, carry, change, clashes, gone, keep, mark, move, on_text, reader, shown, tested, text_of, who,
    withdraw,
)

GREATEST = 4294967295


class Shown(unittest.TestCase):
    def test_at_the_beginning(self):
        self.assertEqual(ask(shown()), [[0]])

    def test_the_words(self):
        self.assertEqual(ask(begins(9, 9, 99999, 1), shown())[1], [4, 9, 9, 99999, 1])
        self.assertEqual(ask(begins(), shown())[1], [0])
        self.assertEqual(ask(text_of(100), shown())[1], [100, *range(1, 101)])

    def test_open_marks_change_nothing(self):
        found = on_text(3, change(0, 0, 1, 9), move(0, 0, 1, 3), keep(0, 0, 2), shown())
        self.assertEqual(found[3], [3, 1, 2, 3])

    def test_a_refused_text_is_not_shown(self):
        self.assertEqual(ask(begins(1, 2), begins(3, 0), shown())[1:], [[-1], [2, 1, 2]])

    def test_nothing_is_left_of_the_text(self):
        self.assertEqual(on_text(2, change(0, 0, 2), carry(), shown())[2], [0])


class Mark(unittest.TestCase):
    def test_an_open_change(self):
        calls = [text_of(4), reader(1), reader(1), change(1, 1, 3, 7, 8, 9), change(0, 2, 2, 6), change(0, 0, 4)]
        found = after(calls, mark(0), mark(1), mark(2))
        self.assertEqual(found, [[0, 1, 0, 1, 3, 3, 7, 8, 9], [0, 0, 0, 2, 2, 1, 6], [0, 0, 0, 0, 4, 0]])

    def test_an_open_keep(self):
        self.assertEqual(after([text_of(4), reader(1), reader(1), keep(1, 1, 3)], mark(0)), [[0, 1, 1, 1, 3]])

    def test_an_open_move(self):
        calls = [text_of(4), reader(1), reader(1), move(1, 1, 3, 4), move(0, 1, 3, 0)]
        self.assertEqual(after(calls, mark(0), mark(1)), [[0, 1, 2, 1, 3, 4], [0, 0, 2, 1, 3, 0]])

    def test_carried_out_and_lost(self):
        calls = [text_of(3), reader(2), reader(1), carry(), change(1, 0, 2), change(0, 0, 1), carry()]
        self.assertEqual(after(calls, mark(0), mark(1)), [[2, 1, 1], [1, 0, 1]])

    def test_withdrawn(self):
        calls = [text_of(3), reader(1), reader(1)]
        for call in (change(1, 0, 1, 7), keep(1, 0, 1), move(1, 0, 1, 3)):
            self.assertEqual(after(calls, call, withdraw(0), mark(0), carry(), mark(0))[2:], [[3, 1], [0, 0], [3, 1]])

    def test_there_is_no_such_mark(self):
        self.assertEqual(ask(mark(0)), [[-2]])
        self.assertEqual(on_text(2, keep(0, 0, 1), mark(1), mark(GREATEST), keep(0, 1, 1), mark(1), mark(0))[1:],
                         [[-2], [-2], [-1], [-2], [0, 0, 1, 0, 1]])

    def test_nothing_is_changed(self):
        found = on_text(2, change(0, 0, 1, 7), mark(0), mark(0), carry(), shown(), mark(0), mark(0))
        self.assertEqual(found[1:], [[0, 0, 0, 0, 1, 1, 7]] * 2 + [[1, 1, 0], [2, 7, 2], [1, 0, 0], [1, 0, 0]])


class Test(unittest.TestCase):
    def test_no_marks(self):
        self.assertEqual(ask(tested()), [[0]])
        self.assertEqual(on_text(3, change(0, 0, 1), change(0, 0, 2), tested())[2], [3, 1, 2, 3])

    def test_one_of_each_kind(self):
        found = on_text(4, change(0, 1, 2, 7, 8), keep(0, 0, 4), move(0, 0, 1, 3), change(0, 0, 4), change(0, 4, 4, 9),
                        tested(0), tested(1), tested(2), tested(3), tested(4))
        self.assertEqual(found[5:], [[5, 1, 7, 8, 3, 4], [4, 1, 2, 3, 4], [4, 2, 3, 1, 4], [0], [5, 1, 2, 3, 4, 9]])

    def test_these_alone(self):
        calls = [text_of(3), reader(1), reader(1000), change(0, 0, 1, 7), change(1, 2, 3, 8), change(1, 0, 1, 9)]
        self.assertEqual(after(calls, tested(0), tested(0, 1), tested(1, 2)), [[3, 7, 2, 3], [3, 7, 2, 8], [3, 9, 2, 8]])

    def test_the_order_told_makes_no_other_text(self):
        marks = [move(0, 1, 2, 0), change(0, 1, 1, 8), change(0, 2, 2, 9), change(0, 3, 4, 7)]
        orders = [tested(*order) for order in permutations(range(4))]
        self.assertEqual(on_text(5, *marks, *orders)[4:], [[7, 2, 1, 8, 9, 3, 7, 5]] * 24)

    def test_the_very_same_count_once(self):
        found = on_text(2, change(0, 1, 1, 8), change(0, 1, 1, 8), change(0, 0, 1), change(0, 0, 1), move(0, 1, 2, 0),
                        move(0, 1, 2, 0), tested(0, 1), tested(3, 2), tested(4, 5), tested(1, 2, 0, 3))
        self.assertEqual(found[6:], [[3, 1, 8, 2], [1, 2], [2, 2, 1], [2, 8, 2]])

    def test_ten_marks(self):
        marks = [change(0, place, place + 1, 20 + place) for place in range(10)]
        self.assertEqual(on_text(10, *marks, tested(*reversed(range(10))))[10], [10, *range(20, 30)])

    def test_there_is_no_such_mark(self):
        self.assertEqual(ask(tested(0)), [[-2]])
        found = on_text(3, keep(0, 0, 1), keep(0, 0, 1), tested(2), tested(0, 2), tested(GREATEST, 0), tested(1, 0))
        self.assertEqual(found[2:], [[-2], [-2], [-2], [3, 1, 2, 3]])

    def test_one_is_not_open(self):
        calls = [text_of(3), reader(2), reader(1), keep(1, 0, 2), change(0, 0, 1, 7), keep(0, 2, 3), withdraw(2), carry()]
        calls += [keep(0, 0, 1)]
        found = after(calls, mark(0), mark(1), mark(2), tested(0), tested(1), tested(2), tested(3, 0), tested(3))
        self.assertEqual(found, [[2, 1, 0], [1, 0, 0], [3, 0], [-2], [-2], [-2], [-2], [3, 7, 2, 3]])

    def test_two_gainsay_one_another(self):
        found = on_text(3, change(0, 0, 1), keep(0, 2, 3), change(0, 0, 2), tested(0, 2), tested(2, 0), tested(1, 2, 0),
                        tested(0, 1), tested(2, 1))
        self.assertEqual(found[3:], [[-4], [-4], [-4], [2, 2, 3], [1, 3]])

    def test_what_is_missing_is_told_ahead_of_what_gainsays(self):
        found = on_text(3, change(0, 0, 1), change(0, 0, 2), change(0, 0, 3), withdraw(2), tested(0, 1), tested(0, 1, 2),
                        tested(2, 1, 0), tested(0, 1, 3), tested(3, 1, 0))
        self.assertEqual(found[4:], [[-4], [-2], [-2], [-2], [-2]])

    def test_more_than_a_hundred_words_are_told(self):
        found = on_text(100, change(0, 0, 0, *[7] * 20), change(0, 100, 100, *[8] * 20), tested(0), tested(1, 0), carry())
        self.assertEqual(found[2:], [[120, *[7] * 20, *range(1, 101)], [140, *[7] * 20, *range(1, 101), *[8] * 20], [-5]])

    def test_forty_numbers(self):
        self.assertEqual(on_text(2, *[keep(0, 0, 1)] * 10, tested(*range(40)))[10], [-2])

    def test_nothing_is_changed(self):
        calls = [text_of(6), reader(1), reader(2), change(0, 0, 1, 7), carry(), change(0, 1, 2, 8), move(1, 3, 4, 6)]
        calls += [keep(1, 0, 3), change(0, 5, 5, 9), keep(0, 0, 1), withdraw(5)]
        asked = [shown(), gone(), clashes(), *[mark(number) for number in range(7)], *[who(place) for place in range(7)]]
        asked += [carry(), shown(), gone(), *[mark(number) for number in range(7)], *[who(place) for place in range(8)]]
        before = after(calls, *asked)
        for call in (tested(1, 2, 4), tested(3), tested(1, 3), tested(5), tested(9), tested()):
            self.assertEqual(after(calls, call, *asked)[1:], before)

    def test_asked_in_the_next_proof(self):
        calls = [text_of(4), reader(9), reader(1), change(1, 2, 3, 9), keep(0, 2, 3), change(0, 0, 1), carry()]
        self.assertEqual(after(calls, tested(0), carry(), shown()), [[3, 2, 9, 4], [1, 1, 0], [3, 2, 9, 4]])


if __name__ == "__main__":
    unittest.main()
