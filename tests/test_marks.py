import unittest

from tests.calls import (
    after, ask, begins, carry, change, clashes, keep, last, move, on_text, reader, text_of, withdraw,
)

GREATEST = 4294967295


class Change(unittest.TestCase):
    def one(self, count, i, j, *words):
        return on_text(count, change(0, i, j, *words))[0]

    def test_numbers_are_from_0(self):
        self.assertEqual(on_text(3, change(0, 0, 1, 9), change(0, 1, 3, 9), change(0, 2, 2, 9)), [[0], [1], [2]])

    def test_words_become_more_or_fewer_or_none(self):
        self.assertEqual(self.one(3, 0, 1, 7, 8, 9), [0])
        self.assertEqual(self.one(3, 0, 3, 7), [0])
        self.assertEqual(self.one(3, 0, 3), [0])

    def test_i_is_j(self):
        for gap in (0, 1, 3):
            self.assertEqual(self.one(3, gap, gap, 7), [0])
            self.assertEqual(self.one(3, gap, gap), [-1])

    def test_i_above_j(self):
        self.assertEqual(self.one(3, 1, 2, 7), [0])
        self.assertEqual(self.one(3, 2, 1, 7), [-1])
        self.assertEqual(self.one(3, 3, 0), [-1])
        self.assertEqual(self.one(3, GREATEST, 2, 7), [-1])

    def test_j_at_and_above_how_many_words_there_are(self):
        self.assertEqual(self.one(3, 2, 3, 7), [0])
        self.assertEqual(self.one(3, 2, 4, 7), [-1])
        self.assertEqual(self.one(3, 4, 4, 7), [-1])
        self.assertEqual(self.one(3, 0, GREATEST, 7), [-1])

    def test_what_is_no_word(self):
        for word, found in ((0, -1), (1, 0), (99999, 0), (100000, -1), (GREATEST, -1)):
            self.assertEqual(self.one(3, 0, 1, word), [found])
            self.assertEqual(self.one(3, 1, 1, word), [found])
            self.assertEqual(self.one(3, 0, 1, 5, word), [found])
            self.assertEqual(self.one(3, 0, 1, word, 5), [found])

    def test_twenty_words_at_the_most(self):
        self.assertEqual(self.one(3, 0, 1, *[5] * 20), [0])
        self.assertEqual(self.one(3, 0, 1, *[5] * 21), [-1])
        self.assertEqual(self.one(3, 1, 1, *[5] * 20), [0])
        self.assertEqual(self.one(3, 1, 1, *[5] * 21), [-1])
        self.assertEqual(self.one(3, 0, 3, *[5] * 40), [-1])

    def test_room_is_not_asked_before_it_is_carried_out(self):
        self.assertEqual(self.one(100, 0, 0, *[5] * 20), [0])
        self.assertEqual(self.one(100, 0, 100), [0])

    def test_its_words_may_be_the_text_s_own(self):
        self.assertEqual(self.one(3, 0, 3, 1, 2, 3), [0])


class Keep(unittest.TestCase):
    def one(self, count, i, j):
        return on_text(count, keep(0, i, j))[0]

    def test_numbers_are_from_0(self):
        self.assertEqual(on_text(3, keep(0, 0, 1), keep(0, 0, 3), keep(0, 0, 1)), [[0], [1], [2]])

    def test_i_below_j(self):
        self.assertEqual(self.one(3, 1, 2), [0])
        self.assertEqual(self.one(3, 1, 1), [-1])
        self.assertEqual(self.one(3, 2, 1), [-1])
        self.assertEqual(self.one(3, GREATEST, 1), [-1])

    def test_i_is_j_at_either_end(self):
        self.assertEqual(self.one(3, 0, 0), [-1])
        self.assertEqual(self.one(3, 3, 3), [-1])

    def test_j_at_and_above_how_many_words_there_are(self):
        self.assertEqual(self.one(3, 0, 3), [0])
        self.assertEqual(self.one(3, 0, 4), [-1])
        self.assertEqual(self.one(3, 3, 4), [-1])
        self.assertEqual(self.one(3, 0, GREATEST), [-1])


class Move(unittest.TestCase):
    def one(self, count, i, j, k):
        return on_text(count, move(0, i, j, k))[0]

    def test_numbers_are_from_0(self):
        self.assertEqual(on_text(3, move(0, 0, 1, 2), move(0, 0, 1, 3), move(0, 1, 3, 0)), [[0], [1], [2]])

    def test_i_below_j(self):
        self.assertEqual(self.one(5, 1, 2, 4), [0])
        self.assertEqual(self.one(5, 1, 1, 4), [-1])
        self.assertEqual(self.one(5, 2, 1, 4), [-1])
        self.assertEqual(self.one(5, GREATEST, 1, 4), [-1])

    def test_j_at_and_above_how_many_words_there_are(self):
        self.assertEqual(self.one(3, 1, 3, 0), [0])
        self.assertEqual(self.one(3, 1, 4, 0), [-1])
        self.assertEqual(self.one(3, 1, GREATEST, 0), [-1])

    def test_k_at_and_above_how_many_words_there_are(self):
        self.assertEqual(self.one(3, 0, 1, 3), [0])
        self.assertEqual(self.one(3, 0, 1, 4), [-1])
        self.assertEqual(self.one(3, 0, 1, GREATEST), [-1])

    def test_k_from_i_to_j(self):
        found = [self.one(7, 2, 5, k) for k in range(9)]
        self.assertEqual(found, [[0], [0], [-1], [-1], [-1], [-1], [0], [0], [-1]])

    def test_k_beside_a_single_word(self):
        found = [self.one(4, 2, 3, k) for k in range(6)]
        self.assertEqual(found, [[0], [0], [-1], [-1], [0], [-1]])

    def test_all_the_words_can_go_nowhere(self):
        self.assertEqual([self.one(3, 0, 3, k) for k in range(5)], [[-1]] * 5)


class OfAllMarks(unittest.TestCase):
    def test_numbers_go_through_all_kinds_and_readers(self):
        found = ask(text_of(4), reader(1), reader(2), keep(1, 0, 1), move(0, 0, 1, 3), change(1, 0, 0, 5), keep(0, 1, 2))
        self.assertEqual(found[3:], [[0], [1], [2], [3]])

    def test_there_is_no_such_reader(self):
        for call in (change, keep):
            words = (7,) if call is change else ()
            found = ask(text_of(3), reader(1), call(1, 0, 1, *words), call(GREATEST, 0, 1, *words), call(0, 0, 1, *words))
            self.assertEqual(found[2:], [[-2], [-2], [0]])
        found = ask(text_of(3), reader(1), move(1, 0, 1, 2), move(GREATEST, 0, 1, 2), move(0, 0, 1, 2))
        self.assertEqual(found[2:], [[-2], [-2], [0]])

    def test_no_such_reader_is_told_ahead_of_the_rest(self):
        wrong = [change(1, 2, 1, 7), change(1, 0, 1, 0), change(1, 0, 1, *[5] * 21), keep(1, 1, 1), move(1, 0, 1, 1)]
        self.assertEqual(on_text(3, *wrong), [[-2]] * 5)
        full = [keep(0, 0, 1)] * 10
        right = [change(1, 0, 1, 7), keep(1, 0, 1), move(1, 0, 1, 2)]
        self.assertEqual(on_text(3, *full, *wrong, *right)[10:], [[-2]] * 8)

    def test_a_wrong_one_is_told_ahead_of_too_many(self):
        full = [keep(0, 0, 1)] * 10
        wrong = [
            change(0, 2, 1, 7), change(0, 0, 4, 7), change(0, 0, 1, 0), change(0, 0, 1, *[5] * 21), change(0, 1, 1),
            keep(0, 1, 1), keep(0, 0, 4), move(0, 1, 1, 3), move(0, 0, 4, 0), move(0, 0, 1, 4), move(0, 0, 1, 1),
        ]
        self.assertEqual(on_text(3, *full, *wrong)[10:], [[-1]] * 11)

    def test_ten_open_ones_at_the_most(self):
        for call in (change(0, 0, 1, 7), keep(0, 0, 1), move(0, 0, 1, 2)):
            found = on_text(3, *[keep(0, 0, 1)] * 9, call, call)
            self.assertEqual(found[9:], [[9], [-5]])

    def test_ten_open_ones_of_all_readers_together(self):
        found = ask(text_of(3), reader(1), reader(1), *[keep(0, 0, 1)] * 5, *[keep(1, 0, 1)] * 6)
        self.assertEqual(found[12:], [[9], [-5]])

    def test_withdrawn_ones_leave_room(self):
        found = on_text(3, *[keep(0, 0, 1)] * 11, withdraw(4), move(0, 0, 1, 2), keep(0, 0, 1))
        self.assertEqual(found[10:], [[-5], [0], [10], [-5]])

    def test_a_refused_one_is_no_mark(self):
        found = on_text(
            3, change(0, 0, 1), change(1, 0, 2), change(0, 2, 1), keep(0, 1, 1), move(0, 0, 1, 1),
            clashes(), withdraw(1), change(0, 0, 2), clashes(),
        )
        self.assertEqual(found, [[0], [-2], [-1], [-1], [-1], [0], [-2], [1], [1, 0, 1]])

    def test_one_too_many_is_no_mark(self):
        found = on_text(3, *[keep(0, 0, 1)] * 10, change(0, 0, 1), clashes(), withdraw(10), withdraw(0), change(0, 0, 1))
        self.assertEqual(found[10:], [[-5], [0], [-2], [0], [10]])


class InAll(unittest.TestCase):
    """Each list here makes 60 marks: 50 that are carried out, and 10 more."""

    def setUp(self):
        self.calls = [text_of(3), reader(1)] + ([keep(0, 0, 1)] * 10 + [carry()]) * 5

    def test_sixty_at_the_most(self):
        calls = self.calls + [call for number in range(50, 57) for call in (keep(0, 0, 1), withdraw(number))]
        found = after(
            calls, change(0, 0, 1, 7), move(0, 0, 1, 2), keep(0, 0, 1), change(0, 0, 1, 7), move(0, 0, 1, 2),
            keep(0, 0, 1), clashes(), withdraw(60),
        )
        self.assertEqual(found, [[57], [58], [59], [-5], [-5], [-5], [3, 57, 58, 57, 59, 58, 59], [-2]])

    def test_withdrawing_leaves_no_room(self):
        calls = self.calls + [call for number in range(50, 60) for call in (keep(0, 0, 1), withdraw(number))]
        self.assertEqual(after(calls, keep(0, 0, 1), clashes()), [[-5], [0]])

    def test_what_is_told_ahead_of_it(self):
        calls = self.calls + [keep(0, 0, 1)] * 10 + [carry()]
        wrong = [keep(1, 1, 1), keep(0, 1, 1), change(1, 2, 1, 7), change(0, 2, 1, 7), move(1, 0, 1, 1), move(0, 0, 1, 1)]
        self.assertEqual(after(calls, *wrong), [[-2], [-1]] * 3)

    def test_begins_makes_room(self):
        calls = self.calls + [keep(0, 0, 1)] * 10 + [carry()]
        self.assertEqual(after(calls, keep(0, 0, 1), begins(1), reader(1), keep(0, 0, 1)), [[-5], [1], [0], [0]])


class Withdraw(unittest.TestCase):
    def test_each_kind(self):
        found = on_text(3, change(0, 0, 1), keep(0, 0, 1), move(0, 0, 1, 2), withdraw(1), withdraw(2), withdraw(0))
        self.assertEqual(found[3:], [[0], [0], [0]])

    def test_there_is_no_such_mark(self):
        self.assertEqual(on_text(3, withdraw(0)), [[-2]])
        self.assertEqual(on_text(3, keep(0, 0, 1), withdraw(1), withdraw(GREATEST), withdraw(0)), [[0], [-2], [-2], [0]])

    def test_it_is_not_open(self):
        found = on_text(3, keep(0, 0, 1), keep(0, 0, 1), withdraw(0), withdraw(0), withdraw(1), withdraw(1), withdraw(0))
        self.assertEqual(found[2:], [[0], [-4], [0], [-4], [-4]])

    def test_the_number_is_not_given_again(self):
        self.assertEqual(on_text(3, keep(0, 0, 1), withdraw(0), keep(0, 0, 1), withdraw(0)), [[0], [0], [1], [-4]])

    def test_refused_changes_nothing(self):
        found = on_text(3, change(0, 0, 1), change(0, 0, 2), withdraw(2), clashes(), withdraw(0), withdraw(0), clashes())
        self.assertEqual(found[2:], [[-2], [1, 0, 1], [0], [-4], [0]])

    def test_the_others_stay_open(self):
        found = last(begins(1), reader(1), change(0, 0, 1), change(0, 0, 1, 5), change(0, 0, 0, 5), withdraw(1), clashes())
        self.assertEqual(found, [1, 0, 2])


if __name__ == "__main__":
    unittest.main()
