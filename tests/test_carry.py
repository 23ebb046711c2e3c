import unittest

from tests.calls import (
    after, ask, begins, carry, change, clashes, gone, keep, mark, move, on_text, reader, shown, text_of, who, withdraw,
)


class NoMarks(unittest.TestCase):
    def test_nothing_is_carried_out(self):
        self.assertEqual(on_text(3, carry(), shown()), [[0, 0], [3, 1, 2, 3]])

    def test_at_the_beginning(self):
        self.assertEqual(ask(carry(), shown()), [[0, 0], [0]])

    def test_the_first_proof_is_0_without_begins_too(self):
        self.assertEqual(ask(reader(1), change(0, 0, 0, 7), carry(), mark(0), who(0))[2:], [[1, 1, 0], [1, 0, 0], [1, 0, 0]])

    def test_withdrawn_ones_are_none(self):
        self.assertEqual(on_text(2, change(0, 0, 1), withdraw(0), carry(), shown())[2:], [[0, 0], [2, 1, 2]])

    def test_is_a_proof_all_the_same(self):
        found = on_text(2, carry(), carry(), keep(0, 0, 1), carry(), mark(0))
        self.assertEqual(found[3:], [[1, 1, 0], [1, 0, 2]])


class OneMark(unittest.TestCase):
    def text_after(self, count, call):
        carried, text = on_text(count, call, carry(), shown())[1:]
        self.assertEqual(carried, [1, 1, 0])
        self.assertEqual(text[0], len(text) - 1)
        return text[1:]

    def test_a_change_of_as_many_words(self):
        self.assertEqual(self.text_after(4, change(0, 1, 3, 7, 8)), [1, 7, 8, 4])

    def test_a_change_of_more_and_of_fewer(self):
        self.assertEqual(self.text_after(4, change(0, 1, 2, 7, 8, 9)), [1, 7, 8, 9, 3, 4])
        self.assertEqual(self.text_after(4, change(0, 1, 4, 7)), [1, 7])

    def test_a_change_to_nothing(self):
        self.assertEqual(self.text_after(4, change(0, 0, 2)), [3, 4])
        self.assertEqual(self.text_after(4, change(0, 3, 4)), [1, 2, 3])
        self.assertEqual(self.text_after(4, change(0, 0, 4)), [])

    def test_a_change_that_takes_nothing(self):
        self.assertEqual(self.text_after(3, change(0, 0, 0, 7, 8)), [7, 8, 1, 2, 3])
        self.assertEqual(self.text_after(3, change(0, 1, 1, 7, 8)), [1, 7, 8, 2, 3])
        self.assertEqual(self.text_after(3, change(0, 3, 3, 7, 8)), [1, 2, 3, 7, 8])

    def test_a_change_of_a_text_without_words(self):
        self.assertEqual(self.text_after(0, change(0, 0, 0, 7, 8)), [7, 8])

    def test_a_keep(self):
        self.assertEqual(self.text_after(3, keep(0, 0, 3)), [1, 2, 3])

    def test_a_move_forth(self):
        self.assertEqual(self.text_after(5, move(0, 0, 2, 4)), [3, 4, 1, 2, 5])
        self.assertEqual(self.text_after(5, move(0, 1, 2, 5)), [1, 3, 4, 5, 2])

    def test_a_move_back(self):
        self.assertEqual(self.text_after(5, move(0, 3, 5, 1)), [1, 4, 5, 2, 3])
        self.assertEqual(self.text_after(5, move(0, 2, 3, 0)), [3, 1, 2, 4, 5])


class Several(unittest.TestCase):
    def test_all_that_do_not_gainsay_one_another(self):
        found = on_text(
            8, change(0, 0, 0, 11), change(0, 1, 3, 12), move(0, 7, 8, 4), keep(0, 5, 7), change(0, 8, 8, 13),
            carry(), shown(),
        )
        self.assertEqual(found[5:], [[5, 5, 0, 1, 2, 3, 4], [9, 11, 1, 12, 4, 8, 5, 6, 7, 13]])

    def test_the_order_in_which_they_were_told_makes_no_other_text(self):
        found = on_text(4, change(0, 4, 4, 9), change(0, 2, 3, 8), change(0, 0, 0, 7), carry(), shown())
        self.assertEqual(found[3:], [[3, 3, 0, 1, 2], [6, 7, 1, 2, 8, 4, 9]])

    def test_two_moves_across_one_another(self):
        found = on_text(4, move(0, 0, 1, 3), move(0, 2, 3, 1), carry(), shown())
        self.assertEqual(found[2:], [[2, 2, 0, 1], [4, 3, 2, 1, 4]])

    def test_what_is_put_on_both_sides_of_a_word_that_is_moved_away(self):
        found = on_text(3, change(0, 2, 2, 9), change(0, 1, 1, 8), move(0, 1, 2, 0), carry(), shown())
        self.assertEqual(found[3:], [[3, 3, 0, 1, 2], [5, 2, 1, 8, 9, 3]])

    def test_what_is_put_beside_words_that_are_changed(self):
        found = on_text(3, change(0, 1, 2, 7), change(0, 2, 2, 8), change(0, 0, 0, 6), carry(), shown())
        self.assertEqual(found[3:], [[3, 3, 0, 1, 2], [5, 6, 1, 7, 8, 3]])

    def test_keeps_that_overlap(self):
        found = on_text(4, keep(0, 0, 3), keep(0, 1, 4), keep(0, 0, 3), carry(), shown())
        self.assertEqual(found[3:], [[3, 3, 0, 1, 2], [4, 1, 2, 3, 4]])


class WhichOnes(unittest.TestCase):
    def carried(self, weights, *marks):
        """What carry answers when each of these marks has a reader of its own, of these weights."""
        calls = [text_of(6)] + [reader(weight) for weight in weights]
        calls += [call[:1] + [number] + call[2:] for number, call in enumerate(marks)]
        return after(calls, carry())[0]

    def test_the_weightier_of_two(self):
        self.assertEqual(self.carried((2, 3), change(0, 0, 1), keep(0, 0, 1)), [3, 1, 1])
        self.assertEqual(self.carried((3, 2), change(0, 0, 1), keep(0, 0, 1)), [3, 1, 0])

    def test_one_against_several_lighter_ones(self):
        all_of_it = change(0, 0, 3)
        words = [change(0, 0, 1, 9), change(0, 1, 2, 9), change(0, 2, 3, 9)]
        self.assertEqual(self.carried((7, 2, 2, 2), all_of_it, *words), [7, 1, 0])
        self.assertEqual(self.carried((5, 2, 2, 2), all_of_it, *words), [6, 3, 1, 2, 3])
        self.assertEqual(self.carried((2, 2, 2, 5), *words, all_of_it), [6, 3, 0, 1, 2])
        self.assertEqual(self.carried((2, 2, 2, 7), *words, all_of_it), [7, 1, 3])

    def test_the_greatest_weights(self):
        self.assertEqual(self.carried((1000, 999, 2), change(0, 0, 2), keep(0, 0, 1), keep(0, 1, 2)), [1001, 2, 1, 2])

    def test_not_merely_the_weightiest_first(self):
        # The one in the middle outweighs each of its neighbours, but not both.
        found = self.carried((3, 4, 3), change(0, 0, 2), change(0, 1, 4), change(0, 3, 5))
        self.assertEqual(found, [6, 2, 0, 2])

    def test_not_merely_the_earliest_first(self):
        found = self.carried((1, 1, 1), change(0, 0, 4), change(0, 0, 1, 9), change(0, 1, 3, 9))
        self.assertEqual(found, [2, 2, 1, 2])

    def test_of_two_as_weighty_ones_the_earlier(self):
        self.assertEqual(self.carried((2, 2), change(0, 0, 1), keep(0, 0, 1)), [2, 1, 0])
        self.assertEqual(self.carried((2, 2), keep(0, 0, 1), change(0, 0, 1)), [2, 1, 0])

    def test_of_as_weighty_sets_the_one_with_the_earliest_mark_in_which_they_differ(self):
        # {0} and {1, 2}: it is not how many they are.
        self.assertEqual(self.carried((4, 2, 2), change(0, 0, 2), keep(0, 0, 1), keep(0, 1, 2)), [4, 1, 0])
        # {0, 2} and {1}
        self.assertEqual(self.carried((2, 4, 2), keep(0, 0, 1), change(0, 0, 2), keep(0, 1, 2)), [4, 2, 0, 2])
        # {0, 1} and {2}
        self.assertEqual(self.carried((2, 2, 4), keep(0, 0, 1), keep(0, 1, 2), change(0, 0, 2)), [4, 2, 0, 1])

    def test_sets_that_have_their_first_marks_in_common(self):
        # {0, 1} and {0, 2}
        self.assertEqual(self.carried((1, 2, 2), keep(0, 5, 6), change(0, 0, 1), keep(0, 0, 1)), [3, 2, 0, 1])
        # {0, 2, 3} and {0, 1}
        found = self.carried((1, 2, 1, 1), keep(0, 5, 6), change(0, 0, 2), keep(0, 0, 1), keep(0, 1, 2))
        self.assertEqual(found, [3, 2, 0, 1])

    def test_two_pairs_on_their_own(self):
        # 0 or 3, and 1 or 2: {0, 1}, {0, 2}, {1, 3} and {2, 3} weigh the same.
        found = self.carried((1, 1, 1, 1), change(0, 0, 1), change(0, 3, 4), keep(0, 3, 4), keep(0, 0, 1))
        self.assertEqual(found, [2, 2, 0, 1])

    def test_three_sets_of_a_chain(self):
        # {0, 2}, {1, 2} and {1, 3}
        found = self.carried((1, 1, 1, 1), change(0, 0, 2), change(0, 0, 1, 9), change(0, 3, 5), change(0, 1, 4, 9))
        self.assertEqual(found, [2, 2, 0, 2])

    def test_one_reader_s_marks_each_weigh(self):
        calls = [text_of(4), reader(3), reader(5), change(1, 0, 2), change(0, 0, 1, 9), change(0, 1, 2, 9)]
        self.assertEqual(after(calls, carry()), [[6, 2, 1, 2]])


class TheVerySame(unittest.TestCase):
    def setUp(self):
        self.calls = [text_of(4), reader(3), reader(2), reader(2)]

    def test_all_of_them_are_carried_out_and_weigh(self):
        for call in (change, keep, move):
            rest = {change: (9,), keep: (), move: (4,)}[call]
            found = after(self.calls, call(0, 1, 2, *rest), call(1, 1, 2, *rest), call(0, 1, 2, *rest), carry(),
                          mark(0), mark(1), mark(2))
            self.assertEqual(found[3:], [[8, 3, 0, 1, 2], [1, 0, 0], [1, 1, 0], [1, 0, 0]])

    def test_the_text_is_changed_once(self):
        puts = after(self.calls, change(0, 1, 1, 9), change(1, 1, 1, 9), carry(), shown())
        self.assertEqual(puts[2:], [[5, 2, 0, 1], [5, 1, 9, 2, 3, 4]])
        takes = after(self.calls, change(0, 1, 3, 9), change(1, 1, 3, 9), carry(), shown())
        self.assertEqual(takes[3], [3, 1, 9, 4])
        moves = after(self.calls, move(0, 1, 2, 4), move(1, 1, 2, 4), carry(), shown())
        self.assertEqual(moves[3], [4, 1, 3, 4, 2])

    def test_together_they_outweigh_another(self):
        found = after(self.calls, change(0, 1, 2), change(1, 1, 2, 9), change(2, 1, 2, 9), carry(), shown())
        self.assertEqual(found[3:], [[4, 2, 1, 2], [4, 1, 9, 3, 4]])

    def test_the_first_counts_as_who_brought_and_took(self):
        found = after(self.calls, keep(0, 3, 4), change(2, 1, 2, 9), change(0, 1, 2, 9), carry(), who(1), gone())
        self.assertEqual(found[4:], [[1, 1, 2], [1, 1, 1]])

    def test_a_withdrawn_one_is_not_the_first(self):
        found = after(self.calls, change(0, 1, 2, 9), change(1, 1, 2, 9), change(2, 1, 2, 9), withdraw(0), carry(),
                      who(1), gone())
        self.assertEqual(found[4:], [[4, 2, 1, 2], [1, 1, 1], [1, 1, 1]])

    def test_nearly_the_same_is_not_the_same(self):
        found = after(self.calls, change(0, 1, 2, 9), change(1, 1, 2, 9, 9), carry(), shown())
        self.assertEqual(found[2:], [[3, 1, 0], [4, 1, 9, 3, 4]])

    def test_they_are_counted_once_in_the_room_too(self):
        found = on_text(90, change(0, 4, 4, *[7] * 10), change(0, 4, 4, *[7] * 10), carry(), shown())
        self.assertEqual(found[2], [2, 2, 0, 1])
        self.assertEqual(found[3][0], 100)


class TenMarks(unittest.TestCase):
    def test_none_gainsays_another(self):
        found = on_text(10, *[change(0, place, place + 1, 20 + place) for place in range(10)], carry(), shown())
        self.assertEqual(found[10:], [[10, 10, *range(10)], [10, *range(20, 30)]])

    def test_each_gainsays_each(self):
        found = on_text(10, *[change(0, 0, 1, 20 + number) for number in range(10)], carry(), shown())
        self.assertEqual(found[10:], [[1, 1, 0], [10, 20, *range(2, 11)]])

    def test_the_last_one_alone_outweighs_the_others(self):
        calls = [text_of(10), reader(1), reader(10)] + [keep(0, place, place + 1) for place in range(9)]
        self.assertEqual(after(calls, change(1, 0, 9), carry(), shown())[1:], [[10, 1, 9], [1, 10]])

    def test_every_other_one_of_a_chain(self):
        chain = [change(0, place, place + 2, 20 + place) for place in range(10)]
        found = on_text(11, *chain, carry(), shown())
        self.assertEqual(found[10:], [[5, 5, 0, 2, 4, 6, 8], [6, 20, 22, 24, 26, 28, 11]])

    def test_all_the_same(self):
        found = on_text(3, *[change(0, 1, 1, 9)] * 10, carry(), shown())
        self.assertEqual(found[10:], [[10, 10, *range(10)], [4, 1, 9, 2, 3]])

    def test_room_for_ten_more_afterwards(self):
        found = on_text(3, *[keep(0, 0, 3)] * 10, carry(), *[keep(0, 0, 3)] * 11, carry())
        self.assertEqual(found[11:], [[number] for number in range(10, 20)] + [[-5], [10, 10, *range(10, 20)]])


class TooManyWords(unittest.TestCase):
    def test_a_hundred_afterwards(self):
        found = on_text(90, change(0, 90, 90, *[7] * 10), carry(), shown())
        self.assertEqual(found[1:], [[1, 1, 0], [100, *range(1, 91), *[7] * 10]])

    def test_a_hundred_and_one(self):
        self.assertEqual(on_text(91, change(0, 91, 91, *[7] * 10), carry())[1], [-5])

    def test_what_goes_makes_room(self):
        found = on_text(100, change(0, 0, 20), change(0, 50, 50, *[7] * 20), carry(), shown())
        self.assertEqual(found[2], [2, 2, 0, 1])
        self.assertEqual(found[3], [100, *range(21, 51), *[7] * 20, *range(51, 101)])
        self.assertEqual(on_text(100, change(0, 0, 19), change(0, 50, 50, *[7] * 20), carry())[2], [-5])

    def test_a_full_text_may_be_moved_and_kept(self):
        found = on_text(100, move(0, 0, 1, 100), keep(0, 4, 9), carry(), shown())
        self.assertEqual(found[2:], [[2, 2, 0, 1], [100, *range(2, 101), 1]])

    def test_nothing_is_changed(self):
        calls = [text_of(90), reader(1), reader(2), carry(), change(0, 0, 1), carry()]
        calls += [change(1, 5, 5, *[7] * 20), change(0, 2, 2, 8), keep(0, 4, 6)]
        asked = [shown(), gone(), clashes(), mark(0), mark(1), mark(2), mark(3), who(3), who(89)]
        before = after(calls, *asked)
        self.assertEqual(after(calls, carry(), *asked), [[-5]] + before)
        self.assertEqual(before[0], [89, *range(2, 91)])
        self.assertEqual(before[4:7], [[0, 1, 0, 5, 5, 20, *[7] * 20], [0, 0, 0, 2, 2, 1, 8], [0, 0, 1, 4, 6]])

    def test_it_is_no_proof(self):
        found = on_text(
            90, change(0, 5, 5, *[7] * 20), carry(), carry(), withdraw(0), keep(0, 0, 1), carry(), mark(1),
        )
        self.assertEqual(found[1:], [[-5], [-5], [0], [1], [1, 1, 1], [1, 0, 0]])

    def test_no_other_set_is_taken_in_its_place(self):
        calls = [text_of(95), reader(2), reader(1), change(0, 5, 5, *[7] * 20), change(1, 5, 6)]
        self.assertEqual(after(calls, carry(), withdraw(0), carry()), [[-5], [0], [1, 1, 1]])


class SeveralCarries(unittest.TestCase):
    def test_one_behind_another(self):
        found = on_text(
            3, change(0, 1, 2, 7, 8), carry(), shown(),
            move(0, 1, 3, 0), carry(), shown(),
            change(0, 0, 1), change(0, 4, 4, 9), carry(), shown(),
            carry(), shown(), mark(0), mark(1), mark(2), mark(3),
        )
        self.assertEqual(found[1:3], [[1, 1, 0], [4, 1, 7, 8, 3]])
        self.assertEqual(found[4:6], [[1, 1, 1], [4, 7, 8, 1, 3]])
        self.assertEqual(found[8:10], [[2, 2, 2, 3], [4, 8, 1, 3, 9]])
        self.assertEqual(found[10:12], [[0, 0], [4, 8, 1, 3, 9]])
        self.assertEqual(found[12:], [[1, 0, 0], [1, 0, 1], [1, 0, 2], [1, 0, 2]])

    def test_the_loser_goes_in_the_next_proof(self):
        found = after(
            [begins(1, 2, 3), reader(2), reader(1)],
            change(0, 1, 1, 8), change(1, 1, 1, 9), carry(), shown(), carry(), shown(), carry(), mark(1),
        )
        self.assertEqual(found[2:], [[2, 1, 0], [4, 1, 8, 2, 3], [1, 1, 1], [5, 1, 8, 9, 2, 3], [0, 0], [1, 1, 1]])

    def test_new_marks_are_about_the_new_text(self):
        found = on_text(
            3, change(0, 0, 2), carry(), keep(0, 0, 2), change(0, 0, 1, 5, 6), carry(), keep(0, 0, 2), keep(0, 0, 3),
            move(0, 0, 1, 2), move(0, 0, 1, 3), change(0, 2, 2, 9), change(0, 3, 3, 9),
        )
        self.assertEqual(found[2:], [[-1], [1], [1, 1, 1], [2], [-1], [3], [-1], [4], [-1]])

    def test_twenty(self):
        found = on_text(3, *[call for count in range(20) for call in (move(0, 0, 1, 3), carry())], shown(), mark(19))
        self.assertEqual(found[1:40:2], [[1, 1, number] for number in range(20)])
        self.assertEqual(found[40:], [[3, 3, 1, 2], [1, 0, 19]])

    def test_sixty_marks_in_all(self):
        rounds = [call for count in range(6) for call in [keep(0, 0, 1)] * 10 + [carry()]]
        found = on_text(3, *rounds, keep(0, 0, 1), change(0, 0, 1, 7), move(0, 0, 1, 2), mark(59), mark(60), carry())
        self.assertEqual(found[64], [59])
        self.assertEqual(found[66:], [[-5], [-5], [-5], [1, 0, 5], [-2], [0, 0]])


if __name__ == "__main__":
    unittest.main()
