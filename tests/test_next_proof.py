import unittest

from tests.calls import (
    after, begins, carry, change, clashes, keep, mark, move, reader, shown, tested, text_of, withdraw,
)

# Reader 0 outweighs whatever reader 1 asks for. A keep of reader 0 about words that nothing else is done to holds a
# mark of reader 1 back, so that it is followed into the next proof.
READERS = [reader(100), reader(1)]


def carried(text, light, *heavy):
    """The text's words behind a carry of the heavy marks, and what mark then tells of the light one, number 0."""
    calls = [text, *READERS, light, *heavy]
    weight, words, told = after(calls, carry(), shown(), mark(0))
    if weight[1:] != [len(heavy), *range(1, len(heavy) + 1)]:
        raise AssertionError(f"not the heavy marks alone are carried out: {weight}")
    return words[1:], told


class Words(unittest.TestCase):
    """Where the words stand that a mark takes or keeps."""

    def test_shifted_by_what_is_put_ahead(self):
        words, told = carried(text_of(4), change(1, 2, 3, 99), keep(0, 2, 3), change(0, 0, 0, 7, 8))
        self.assertEqual((words, told), ([7, 8, 1, 2, 3, 4], [0, 1, 0, 4, 5, 1, 99]))

    def test_shifted_by_what_goes_ahead(self):
        words, told = carried(text_of(5), change(1, 3, 5), keep(0, 3, 5), change(0, 0, 2))
        self.assertEqual((words, told), ([3, 4, 5], [0, 1, 0, 1, 3, 0]))

    def test_shifted_by_what_is_moved_past_them(self):
        words, told = carried(text_of(5), change(1, 2, 3, 99, 98), keep(0, 2, 3), move(0, 0, 2, 4))
        self.assertEqual((words, told), ([3, 4, 1, 2, 5], [0, 1, 0, 0, 1, 2, 99, 98]))
        words, told = carried(text_of(5), change(1, 2, 3, 99, 98), keep(0, 2, 3), move(0, 3, 5, 1))
        self.assertEqual((words, told), ([1, 4, 5, 2, 3], [0, 1, 0, 4, 5, 2, 99, 98]))

    def test_not_shifted_by_what_is_done_behind(self):
        words, told = carried(text_of(5), change(1, 0, 2, 99), keep(0, 0, 2), change(0, 2, 4, 7), change(0, 5, 5, 8))
        self.assertEqual((words, told), ([1, 2, 7, 5, 8], [0, 1, 0, 0, 2, 1, 99]))

    def test_moved_as_a_whole(self):
        words, told = carried(text_of(6), change(1, 1, 3, 99), move(0, 1, 3, 5))
        self.assertEqual((words, told), ([1, 4, 5, 2, 3, 6], [0, 1, 0, 3, 5, 1, 99]))
        words, told = carried(text_of(6), keep(1, 1, 3), move(0, 1, 3, 5))
        self.assertEqual(told, [0, 1, 1, 3, 5])

    def test_moved_with_others(self):
        words, told = carried(text_of(6), keep(1, 2, 4), move(0, 1, 5, 0))
        self.assertEqual((words, told), ([2, 3, 4, 5, 1, 6], [0, 1, 1, 1, 3]))

    def test_partly_taken(self):
        for light in (change(1, 1, 3, 99), keep(1, 1, 3), move(1, 1, 3, 5)):
            for heavy in (change(0, 1, 2), change(0, 2, 3, 7), change(0, 0, 2, 7), change(0, 2, 4)):
                self.assertEqual(carried(text_of(5), light, heavy)[1], [2, 1, 0])

    def test_taken_as_a_whole(self):
        for light in (change(1, 1, 3, 99), keep(1, 1, 3), move(1, 1, 3, 5)):
            for heavy in (change(0, 1, 3), change(0, 0, 4, 7, 8, 9)):
                self.assertEqual(carried(text_of(5), light, heavy)[1], [2, 1, 0])

    def test_torn_apart(self):
        for light in (change(1, 1, 3, 99), keep(1, 1, 3), move(1, 1, 3, 5)):
            for heavy in (change(0, 2, 2, 7), move(0, 4, 5, 2), move(0, 2, 3, 0), move(0, 1, 2, 4), move(0, 2, 4, 0)):
                self.assertEqual(carried(text_of(5), light, heavy)[1], [2, 1, 0])

    def test_beside_one_another_but_not_in_order(self):
        for light in (change(1, 1, 3, 99), keep(1, 1, 3), move(1, 1, 3, 5)):
            words, told = carried(text_of(5), light, move(0, 2, 3, 1))
            self.assertEqual((words, told), ([1, 3, 2, 4, 5], [2, 1, 0]))

    def test_the_last_of_three_torn_off(self):
        self.assertEqual(carried(text_of(5), keep(1, 1, 4), change(0, 3, 3, 7))[1], [2, 1, 0])
        self.assertEqual(carried(text_of(5), keep(1, 1, 4), change(0, 2, 2, 7))[1], [2, 1, 0])

    def test_put_into_at_their_ends(self):
        words, told = carried(text_of(4), move(1, 1, 3, 0), keep(0, 1, 3), change(0, 1, 1, 7), change(0, 3, 3, 8))
        self.assertEqual((words, told), ([1, 7, 2, 3, 8, 4], [0, 1, 2, 2, 4, 0]))

    def test_moved_apart_and_together_again(self):
        words, told = carried(text_of(4), keep(1, 0, 2), move(0, 1, 2, 3), change(0, 2, 3))
        self.assertEqual((words, told), ([1, 2, 4], [0, 1, 1, 0, 2]))

    def test_words_that_come_to_stand_at_the_end(self):
        words, told = carried(text_of(4), keep(1, 0, 3), move(0, 0, 3, 4))
        self.assertEqual((words, told), ([4, 1, 2, 3], [0, 1, 1, 1, 4]))


class AlikeWords(unittest.TestCase):
    """Words that are alike are not the same."""

    def test_a_word_becomes_a_like_one(self):
        for light in (keep(1, 0, 1), change(1, 0, 1, 9), move(1, 0, 1, 2)):
            words, told = carried(begins(5, 5, 5), light, change(0, 0, 1, 5))
            self.assertEqual((words, told), ([5, 5, 5], [2, 1, 0]))

    def test_a_like_one_comes_to_its_place(self):
        words, told = carried(begins(5, 5, 5), keep(1, 0, 1), change(0, 0, 1))
        self.assertEqual((words, told), ([5, 5], [2, 1, 0]))
        words, told = carried(begins(5, 5, 5), keep(1, 0, 2), change(0, 0, 1))
        self.assertEqual((words, told), ([5, 5], [2, 1, 0]))

    def test_the_same_one_among_like_ones(self):
        words, told = carried(begins(5, 5, 5, 5), keep(1, 1, 2), move(0, 1, 2, 4))
        self.assertEqual((words, told), ([5, 5, 5, 5], [0, 1, 1, 3, 4]))
        words, told = carried(begins(5, 5, 5), keep(1, 1, 2), move(0, 1, 2, 0))
        self.assertEqual(told, [0, 1, 1, 0, 1])

    def test_torn_apart_by_a_like_one(self):
        words, told = carried(begins(5, 5), keep(1, 0, 2), change(0, 1, 1, 5))
        self.assertEqual((words, told), ([5, 5, 5], [2, 1, 0]))

    def test_words_that_one_change_brought(self):
        calls = [begins(1, 2), *READERS, change(0, 1, 1, 5, 5), carry(), keep(1, 1, 2), move(0, 1, 2, 4), carry()]
        self.assertEqual(after(calls, shown(), mark(1)), [[4, 1, 5, 2, 5], [0, 1, 1, 3, 4]])

    def test_like_words_that_two_changes_brought(self):
        calls = [begins(1, 2), *READERS, change(0, 0, 1, 5), change(0, 1, 2, 5), carry()]
        calls += [keep(1, 1, 2), move(0, 1, 2, 0), carry()]
        self.assertEqual(after(calls, shown(), mark(2)), [[2, 5, 5], [0, 1, 1, 0, 1]])


class GapsOfChanges(unittest.TestCase):
    """Where a change stands that takes nothing."""

    def test_the_gap_that_something_is_put_into(self):
        words, told = carried(text_of(3), change(1, 1, 1, 9), change(0, 1, 1, 7, 8))
        self.assertEqual((words, told), ([1, 7, 8, 2, 3], [0, 1, 0, 3, 3, 1, 9]))

    def test_a_gap_ahead_of_what_is_put(self):
        words, told = carried(text_of(4), change(1, 1, 1, 9), keep(0, 0, 2), change(0, 2, 2, 7, 8))
        self.assertEqual((words, told), ([1, 2, 7, 8, 3, 4], [0, 1, 0, 1, 1, 1, 9]))

    def test_a_gap_behind_what_is_put(self):
        words, told = carried(text_of(4), change(1, 3, 3, 9), keep(0, 2, 4), change(0, 2, 2, 7, 8))
        self.assertEqual((words, told), ([1, 2, 7, 8, 3, 4], [0, 1, 0, 5, 5, 1, 9]))

    def test_the_first_gap_and_the_last(self):
        self.assertEqual(carried(text_of(2), change(1, 0, 0, 9), change(0, 0, 0, 7))[1], [0, 1, 0, 1, 1, 1, 9])
        self.assertEqual(carried(text_of(2), change(1, 2, 2, 9), change(0, 2, 2, 7))[1], [0, 1, 0, 3, 3, 1, 9])
        self.assertEqual(carried(begins(), change(1, 0, 0, 9), change(0, 0, 0, 7))[1], [0, 1, 0, 1, 1, 1, 9])

    def test_a_gap_within_words_that_change(self):
        words, told = carried(text_of(5), change(1, 2, 2, 9), change(0, 1, 4, 7, 8))
        self.assertEqual((words, told), ([1, 7, 8, 5], [0, 1, 0, 3, 3, 1, 9]))

    def test_a_gap_within_words_that_go(self):
        words, told = carried(text_of(5), change(1, 2, 2, 9), change(0, 1, 4))
        self.assertEqual((words, told), ([1, 5], [0, 1, 0, 1, 1, 1, 9]))
        self.assertEqual(carried(text_of(2), change(1, 1, 1, 9), change(0, 0, 2))[1], [0, 1, 0, 0, 0, 1, 9])

    def test_the_gap_ahead_of_words_that_go(self):
        self.assertEqual(carried(text_of(5), change(1, 1, 1, 9), change(0, 1, 4))[1], [0, 1, 0, 1, 1, 1, 9])

    def test_a_gap_within_words_that_are_moved_away(self):
        words, told = carried(text_of(6), change(1, 2, 2, 9), move(0, 1, 3, 5))
        self.assertEqual((words, told), ([1, 4, 5, 2, 3, 6], [0, 1, 0, 1, 1, 1, 9]))
        words, told = carried(text_of(6), change(1, 4, 4, 9), move(0, 3, 5, 1))
        self.assertEqual((words, told), ([1, 4, 5, 2, 3, 6], [0, 1, 0, 5, 5, 1, 9]))

    def test_the_gap_that_words_are_moved_into(self):
        words, told = carried(text_of(5), change(1, 1, 1, 9), move(0, 3, 5, 1))
        self.assertEqual((words, told), ([1, 4, 5, 2, 3], [0, 1, 0, 3, 3, 1, 9]))

    def test_a_gap_that_words_are_moved_past(self):
        words, told = carried(text_of(5), change(1, 3, 3, 9), keep(0, 2, 4), move(0, 0, 2, 5))
        self.assertEqual((words, told), ([3, 4, 5, 1, 2], [0, 1, 0, 1, 1, 1, 9]))
        words, told = carried(text_of(5), change(1, 2, 2, 9), keep(0, 1, 3), move(0, 3, 5, 0))
        self.assertEqual((words, told), ([4, 5, 1, 2, 3], [0, 1, 0, 4, 4, 1, 9]))

    def test_two_gaps_that_become_one(self):
        calls = [text_of(4), *READERS, change(1, 1, 1, 9), change(1, 2, 2, 8), change(0, 0, 3)]
        found = after(calls, clashes(), carry(), mark(0), mark(1), clashes(), carry(), shown(), carry(), shown())
        self.assertEqual(found[0], [2, 0, 2, 1, 2])
        self.assertEqual(found[2:5], [[0, 1, 0, 0, 0, 1, 9], [0, 1, 0, 0, 0, 1, 8], [1, 0, 1]])
        self.assertEqual(found[5:], [[1, 1, 0], [2, 9, 4], [1, 1, 1], [3, 9, 8, 4]])

    def test_two_that_come_to_ask_for_the_very_same(self):
        calls = [text_of(4), *READERS, change(1, 1, 1, 9), change(1, 2, 2, 9), change(0, 0, 3)]
        found = after(calls, carry(), clashes(), carry(), shown())
        self.assertEqual(found[1:], [[0], [2, 2, 0, 1], [2, 9, 4]])


class GapsOfMoves(unittest.TestCase):
    def test_the_gap_shifts(self):
        words, told = carried(text_of(4), move(1, 0, 1, 3), keep(0, 0, 1), change(0, 2, 2, 7, 8))
        self.assertEqual((words, told), ([1, 2, 7, 8, 3, 4], [0, 1, 2, 0, 1, 5]))
        words, told = carried(text_of(5), move(1, 0, 1, 4), keep(0, 0, 1), change(0, 2, 3))
        self.assertEqual((words, told), ([1, 2, 4, 5], [0, 1, 2, 0, 1, 3]))

    def test_the_words_shift(self):
        words, told = carried(text_of(4), move(1, 3, 4, 1), keep(0, 3, 4), change(0, 2, 2, 7, 8))
        self.assertEqual((words, told), ([1, 2, 7, 8, 3, 4], [0, 1, 2, 5, 6, 1]))

    def test_both_shift(self):
        words, told = carried(text_of(4), move(1, 1, 2, 3), keep(0, 1, 2), change(0, 0, 1, 7, 8))
        self.assertEqual((words, told), ([7, 8, 2, 3, 4], [0, 1, 2, 2, 3, 4]))

    def test_something_is_put_into_the_gap(self):
        words, told = carried(text_of(4), move(1, 3, 4, 1), change(0, 1, 1, 7, 8))
        self.assertEqual((words, told), ([1, 7, 8, 2, 3, 4], [0, 1, 2, 5, 6, 3]))

    def test_the_words_are_moved_elsewhere(self):
        words, told = carried(text_of(5), move(1, 3, 4, 1), move(0, 3, 4, 0))
        self.assertEqual((words, told), ([4, 1, 2, 3, 5], [0, 1, 2, 0, 1, 2]))
        words, told = carried(text_of(5), move(1, 1, 2, 3), move(0, 1, 2, 5))
        self.assertEqual((words, told), ([1, 3, 4, 5, 2], [0, 1, 2, 4, 5, 2]))

    def test_its_words_are_taken_by_another_move_into_the_same_gap(self):
        words, told = carried(text_of(5), move(1, 3, 4, 1), move(0, 3, 5, 1))
        self.assertEqual((words, told), ([1, 4, 5, 2, 3], [0, 1, 2, 1, 2, 3]))


class WhereItStandsAlready(unittest.TestCase):
    """Moves that come to be asked to where their words stand: they are no change, and are carried out all the same."""

    def check(self, light, heavy, words, asked):
        calls = [text_of(5), *READERS, light, *heavy, carry()]
        found = after(calls, shown(), mark(0), tested(0), carry(), shown(), mark(0))
        told = [len(words), *words]
        self.assertEqual(found, [told, [0, 1, 2, *asked], told, [1, 1, 0], told, [1, 1, 1]])

    def test_behind_its_words(self):
        self.check(move(1, 0, 1, 3), [keep(0, 0, 1), change(0, 1, 3)], [1, 4, 5], [0, 1, 1])

    def test_ahead_of_its_words(self):
        self.check(move(1, 3, 4, 1), [change(0, 1, 3)], [1, 4, 5], [1, 2, 1])

    def test_at_the_end_of_what_was_moved_there(self):
        self.check(move(1, 4, 5, 1), [move(0, 3, 5, 1)], [1, 4, 5, 2, 3], [2, 3, 3])

    def test_within_its_own_words(self):
        self.check(move(1, 3, 5, 1), [move(0, 3, 4, 1), move(0, 1, 3, 5)], [1, 4, 5, 2, 3], [1, 3, 2])

    def test_it_may_stand_elsewhere_again_in_the_proof_behind(self):
        calls = [text_of(4), *READERS, move(1, 0, 1, 3), keep(0, 0, 1), change(0, 1, 3), carry()]
        calls += [keep(0, 0, 1), change(0, 1, 1, 7), carry()]
        found = after(calls, shown(), mark(0), carry(), shown())
        self.assertEqual(found, [[3, 1, 7, 4], [0, 1, 2, 0, 1, 2], [1, 1, 0], [3, 7, 1, 4]])

    def test_it_gainsays_as_any_other_move(self):
        calls = [text_of(5), *READERS, move(1, 0, 1, 3), keep(0, 0, 1), change(0, 1, 3), carry()]
        found = after(calls, keep(1, 0, 1), change(1, 1, 1, 7), change(1, 0, 0, 7), keep(1, 1, 3), clashes())
        self.assertEqual(found[-1], [2, 0, 3, 0, 4])

    def test_it_does_not_ask_the_same_as_a_change_of_its_words_to_nothing(self):
        calls = [text_of(5), *READERS, move(1, 3, 4, 1), change(0, 1, 3), carry(), change(1, 1, 2)]
        found = after(calls, mark(0), mark(2), clashes(), tested(0, 2), carry(), shown())
        self.assertEqual(found, [[0, 1, 2, 1, 2, 1], [0, 1, 0, 1, 2, 0], [1, 0, 2], [-4], [1, 1, 0], [3, 1, 4, 5]])


class States(unittest.TestCase):
    def test_told_with_the_proof_in_which_it_stood(self):
        calls = [
            text_of(6), *READERS,
            change(0, 0, 1, 7), change(1, 0, 2), carry(),
            change(1, 5, 6, 9), keep(0, 5, 6), carry(),
            change(0, 5, 6), carry(),
            move(0, 0, 1, 2), carry(),
        ]
        found = after(calls, *[mark(number) for number in range(6)])
        self.assertEqual(found, [[1, 0, 0], [2, 1, 0], [2, 1, 2], [1, 0, 1], [1, 0, 2], [1, 0, 3]])

    def test_an_open_one_is_told_without_a_proof_however_long_it_stands(self):
        calls = [text_of(3), *READERS, change(1, 1, 2, 9)] + [keep(0, 1, 2), carry()] * 5
        self.assertEqual(after(calls, mark(0), carry(), mark(0)), [[0, 1, 0, 1, 2, 1, 9], [1, 1, 0], [1, 1, 5]])

    def test_followed_over_several_proofs(self):
        calls = [text_of(3), *READERS, change(1, 1, 2, 9), keep(1, 2, 3)]
        for count in range(3):
            calls += [keep(0, 1 + count, 2 + count), change(0, 0, 0, 7), carry()]
        found = after(calls, shown(), mark(0), carry(), shown())
        self.assertEqual(found, [[6, 7, 7, 7, 1, 2, 3], [0, 1, 0, 4, 5, 1, 9], [1, 1, 0], [6, 7, 7, 7, 1, 9, 3]])

    def test_one_that_is_carried_out_or_lost_is_not_open(self):
        calls = [text_of(3), *READERS, change(0, 0, 1, 7), change(1, 0, 2), carry()]
        found = after(calls, withdraw(0), withdraw(1), clashes(), tested(0), tested(1), carry())
        self.assertEqual(found, [[-4], [-4], [0], [-2], [-2], [0, 0]])

    def test_those_leave_room(self):
        calls = [text_of(3), *READERS, *[change(0, 0, 1, 7)] * 5, *[keep(1, 0, 2)] * 4, change(1, 0, 0, 8), carry()]
        found = after(calls, *[keep(1, 0, 1)] * 10)
        self.assertEqual(found, [[number] for number in range(10, 19)] + [[-5]])

    def test_a_withdrawn_one_is_not_followed(self):
        calls = [text_of(3), *READERS, change(1, 0, 2), withdraw(0), change(0, 0, 1, 7), carry()]
        self.assertEqual(after(calls, mark(0), withdraw(0)), [[3, 1], [-4]])

    def test_one_that_was_lost_stays_lost(self):
        calls = [text_of(3), *READERS, keep(1, 0, 2), change(0, 1, 1, 7), carry(), change(0, 1, 2), carry()]
        self.assertEqual(after(calls, shown(), mark(0), carry(), mark(0)), [[3, 1, 2, 3], [2, 1, 0], [0, 0], [2, 1, 0]])

    def test_clashes_are_those_of_the_new_text(self):
        calls = [text_of(5), *READERS, change(1, 1, 3), change(1, 2, 3, 9), keep(0, 1, 3), change(0, 0, 0, 7)]
        found = after(calls, clashes(), carry(), change(1, 1, 2), change(1, 3, 4), clashes())
        self.assertEqual(found[0], [3, 0, 1, 0, 2, 1, 2])
        self.assertEqual(found[-1], [3, 0, 1, 0, 5, 1, 5])


if __name__ == "__main__":
    unittest.main()
