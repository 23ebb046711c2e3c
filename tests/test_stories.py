import unittest

from tests.calls import (
    after, ask, begins, carry, change, gone, keep, mark, move, on_text, reader, shown, tested, text_of, who, withdraw,
)

GREATEST = 4294967295


class Who(unittest.TestCase):
    def test_there_at_first(self):
        self.assertEqual(ask(begins(8, 8, 9), who(0), who(1), who(2))[1:], [[0, 0], [0, 1], [0, 2]])

    def test_there_is_no_such_word(self):
        self.assertEqual(ask(begins(8, 9), who(1), who(2), who(3), who(GREATEST))[1:], [[0, 1], [-6], [-6], [-6]])
        self.assertEqual(ask(who(0)), [[-6]])
        self.assertEqual(ask(begins(), who(0))[1:], [[-6]])

    def test_the_text_s_own_length_counts(self):
        shorter = on_text(3, change(0, 0, 2), carry(), who(0), who(1))
        self.assertEqual(shorter[2:], [[0, 2], [-6]])
        longer = on_text(1, change(0, 1, 1, 7, 7), who(1), carry(), who(2), who(3))
        self.assertEqual(longer[1:], [[-6], [1, 1, 0], [1, 0, 0], [-6]])

    def test_shifted(self):
        found = on_text(3, change(0, 0, 1), change(0, 2, 2, 7), carry(), who(0), who(1), who(2))
        self.assertEqual(found[3:], [[0, 1], [1, 1, 0], [0, 2]])

    def test_moved(self):
        found = on_text(4, move(0, 0, 2, 4), carry(), who(0), who(1), who(2), who(3))
        self.assertEqual(found[2:], [[0, 2], [0, 3], [0, 0], [0, 1]])

    def test_moved_several_times(self):
        found = on_text(4, move(0, 0, 1, 3), carry(), move(0, 2, 4, 0), carry(), shown(), who(0), who(1), who(2), who(3))
        self.assertEqual(found[4:], [[4, 1, 4, 2, 3], [0, 0], [0, 3], [0, 1], [0, 2]])

    def test_kept(self):
        self.assertEqual(on_text(2, keep(0, 0, 2), carry(), who(0), who(1))[2:], [[0, 0], [0, 1]])

    def test_brought_by_a_change(self):
        calls = [text_of(3), reader(1), reader(1), keep(0, 0, 1), change(1, 1, 2, 7, 8), carry()]
        self.assertEqual(after(calls, who(0), who(1), who(2), who(3)), [[0, 0], [1, 1, 1], [1, 1, 1], [0, 2]])

    def test_a_like_word_was_brought_all_the_same(self):
        found = on_text(2, change(0, 0, 1, 1), carry(), shown(), who(0), who(1))
        self.assertEqual(found[2:], [[2, 1, 2], [1, 0, 0], [0, 1]])

    def test_brought_and_then_moved(self):
        calls = [text_of(3), reader(1), reader(1), change(1, 0, 0, 7, 8), carry(), move(0, 0, 1, 5), carry()]
        self.assertEqual(after(calls, shown(), who(0), who(4)), [[5, 8, 1, 2, 3, 7], [1, 0, 1], [1, 0, 1]])

    def test_brought_and_then_brought_anew(self):
        calls = [text_of(1), reader(1), reader(1), change(1, 0, 1, 7), carry(), change(0, 0, 1, 7), carry()]
        self.assertEqual(after(calls, who(0)), [[1, 1, 0]])

    def test_of_those_that_ask_for_the_same_the_first(self):
        calls = [text_of(1), reader(1), reader(9), keep(0, 0, 1), change(0, 1, 1, 7), change(1, 1, 1, 7), carry()]
        self.assertEqual(after(calls, who(1)), [[1, 1, 0]])

    def test_an_open_mark_has_brought_nothing(self):
        self.assertEqual(on_text(1, change(0, 0, 1, 7), who(0), tested(0), who(0))[1:], [[0, 0], [1, 7], [0, 0]])

    def test_whoever_brought_it_brought_it_also_when_its_mark_is_long_past(self):
        found = on_text(1, change(0, 1, 1, 7), carry(), keep(0, 0, 2), carry(), carry(), who(0), who(1), mark(0))
        self.assertEqual(found[5:], [[0, 0], [1, 0, 0], [1, 0, 0]])


class Gone(unittest.TestCase):
    def test_nothing(self):
        self.assertEqual(ask(gone()), [[0]])
        self.assertEqual(on_text(3, gone(), change(0, 0, 1), gone(), change(0, 2, 2, 7), withdraw(0), carry(), gone())[-1],
                         [0])

    def test_taken_by_a_change(self):
        self.assertEqual(on_text(4, change(0, 1, 3, 7), carry(), gone())[2], [2, 1, 0, 2, 0])
        self.assertEqual(on_text(4, change(0, 0, 4), carry(), gone())[2], [4, 0, 0, 1, 0, 2, 0, 3, 0])

    def test_taken_for_a_like_word(self):
        self.assertEqual(on_text(2, change(0, 0, 1, 1), carry(), gone())[2], [1, 0, 0])

    def test_what_is_moved_or_kept_is_not_gone(self):
        self.assertEqual(on_text(4, move(0, 0, 2, 3), keep(0, 3, 4), carry(), gone())[3], [0])

    def test_in_one_proof_by_places_whatever_the_marks_numbers(self):
        found = on_text(5, change(0, 4, 5), change(0, 2, 3, 9), change(0, 0, 1), carry(), gone())
        self.assertEqual(found[4], [3, 0, 2, 2, 1, 4, 0])

    def test_in_one_proof_by_the_places_in_that_proof(self):
        found = on_text(3, move(0, 2, 3, 0), carry(), change(0, 0, 2), carry(), gone())
        self.assertEqual(found[4], [2, 2, 1, 0, 1])

    def test_proof_by_proof(self):
        found = on_text(4, change(0, 3, 4), carry(), gone(), change(0, 1, 2), carry(), gone(), change(0, 0, 1), carry(),
                        gone())
        self.assertEqual([found[place] for place in (2, 5, 8)], [[1, 3, 0], [2, 3, 0, 1, 1], [3, 3, 0, 1, 1, 0, 2]])

    def test_a_proof_in_which_nothing_went(self):
        self.assertEqual(on_text(3, change(0, 1, 2), carry(), carry(), keep(0, 0, 1), carry(), gone())[5], [1, 1, 0])

    def test_a_word_that_was_brought_is_not_told(self):
        found = on_text(2, change(0, 1, 1, 7, 8), carry(), change(0, 1, 2), carry(), shown(), gone())
        self.assertEqual(found[4:], [[3, 1, 8, 2], [0]])

    def test_words_of_both_sorts_taken_together(self):
        found = on_text(3, change(0, 1, 2, 7), carry(), change(0, 0, 3, 9), carry(), shown(), gone())
        self.assertEqual(found[4:], [[1, 9], [3, 1, 0, 0, 1, 2, 1]])

    def test_a_word_that_was_moved_is_told_with_its_place_at_first(self):
        self.assertEqual(on_text(3, move(0, 0, 1, 3), carry(), change(0, 2, 3), carry(), gone())[4], [1, 0, 1])

    def test_of_those_that_ask_for_the_same_the_first(self):
        calls = [text_of(3), reader(1), reader(9), keep(0, 0, 1), change(0, 1, 3), change(1, 1, 3), carry()]
        self.assertEqual(after(calls, gone()), [[2, 1, 1, 2, 1]])

    def test_what_a_lost_mark_asked_for_is_not_gone(self):
        calls = [text_of(3), reader(1), reader(9), change(0, 0, 3), change(1, 1, 2), carry()]
        self.assertEqual(after(calls, mark(0), gone()), [[2, 0, 0], [1, 1, 1]])

    def test_what_is_only_tested_is_not_gone(self):
        self.assertEqual(on_text(3, change(0, 0, 3), tested(0), gone())[1:], [[0], [0]])

    def test_a_refused_carry_takes_nothing(self):
        found = on_text(100, change(0, 0, 1), change(0, 9, 9, *[7] * 20), carry(), gone(), withdraw(1), carry(), gone())
        self.assertEqual(found[2:], [[-5], [0], [0], [1, 1, 0], [1, 0, 0]])

    def test_every_word_that_was_there_at_first_is_there_or_gone(self):
        found = on_text(
            12, change(0, 1, 3, 30), move(0, 5, 7, 9), change(0, 10, 10, 31), carry(),
            move(0, 0, 2, 4), change(0, 6, 9, 32), carry(), gone(), shown(), *[who(place) for place in range(10)],
        )
        taken = found[7][1::2]
        there = [answer[1] for answer in found[9:] if answer[0] == 0]
        self.assertEqual(sorted(taken + there), list(range(12)))
        self.assertEqual(found[8][0], 10)


if __name__ == "__main__":
    unittest.main()
