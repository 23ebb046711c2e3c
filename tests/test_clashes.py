import unittest

from tests.calls import ask, change, clashes, keep, last, move, on_text, reader, text_of, withdraw

WORDS = 8


def gainsay(one, other):
    """Whether these two gainsay one another, the one first and the other first."""
    found = []
    for first, second in ((one, other), (other, one)):
        answered = on_text(WORDS, first, second, clashes())
        if answered[:2] != [[0], [1]] or answered[2] not in ([0], [1, 0, 1]):
            raise AssertionError(answered)
        found.append(answered[2] == [1, 0, 1])
    if found[0] != found[1]:
        raise AssertionError(f"not both ways: {one} {other}")
    return found[0]


class Pairs(unittest.TestCase):
    def yes(self, one, *others):
        for other in others:
            self.assertTrue(gainsay(one, other), (one, other))

    def no(self, one, *others):
        for other in others:
            self.assertFalse(gainsay(one, other), (one, other))

    def test_the_very_same(self):
        for mark in (change(0, 2, 4, 9), change(0, 2, 4), change(0, 3, 3, 9, 8), keep(0, 2, 4), move(0, 2, 4, 6)):
            self.no(mark, mark)

    def test_the_very_same_of_two_readers(self):
        for kind, rest in ((change, (2, 4, 9)), (change, (3, 3, 9)), (keep, (2, 4)), (move, (2, 4, 6))):
            found = last(text_of(WORDS), reader(1), reader(7), kind(0, *rest), kind(1, *rest), clashes())
            self.assertEqual(found, [0])

    def test_nearly_the_same(self):
        self.yes(change(0, 2, 4, 9), change(0, 2, 4, 8), change(0, 2, 4), change(0, 2, 4, 9, 9), change(0, 2, 5, 9))
        self.yes(change(0, 3, 3, 9, 8), change(0, 3, 3, 8, 9), change(0, 3, 3, 9), change(0, 3, 4, 9, 8))
        self.yes(move(0, 2, 4, 6), move(0, 2, 4, 7), move(0, 2, 5, 6), move(0, 3, 4, 6))

    def test_alike_in_what_comes_of_them_is_not_the_very_same(self):
        self.yes(change(0, 2, 4, 4, 3), move(0, 2, 3, 4), move(0, 3, 4, 2), change(0, 2, 5, 4, 3, 5))

    def test_moves_that_pass_one_another(self):
        self.no(move(0, 2, 3, 4), move(0, 3, 4, 2))

    def test_two_keeps_never(self):
        self.no(keep(0, 2, 5), keep(0, 2, 5), keep(0, 3, 4), keep(0, 0, 8), keep(0, 4, 7), keep(0, 5, 6))

    def test_a_keep_and_what_takes_of_its_words(self):
        kept = keep(0, 2, 5)
        self.yes(kept, change(0, 2, 5), change(0, 2, 3, 9), change(0, 4, 5, 9), change(0, 3, 4, 9))
        self.yes(kept, change(0, 0, 3), change(0, 4, 8), change(0, 0, 8, 9), change(0, 2, 5, 3, 4, 5))
        self.yes(kept, move(0, 2, 5, 7), move(0, 3, 4, 0), move(0, 0, 3, 6), move(0, 4, 6, 1), move(0, 1, 6, 8))

    def test_a_keep_and_what_takes_beside_its_words(self):
        kept = keep(0, 2, 5)
        self.no(kept, change(0, 0, 2), change(0, 1, 2, 9), change(0, 5, 6, 9), change(0, 5, 8))
        self.no(kept, move(0, 0, 2, 7), move(0, 5, 8, 0))

    def test_a_keep_and_what_puts_within_its_words(self):
        kept = keep(0, 2, 5)
        self.yes(kept, change(0, 3, 3, 9), change(0, 4, 4, 9))
        self.yes(kept, move(0, 0, 1, 3), move(0, 0, 2, 4), move(0, 6, 7, 3), move(0, 5, 6, 4))

    def test_a_keep_and_what_puts_at_either_end_of_its_words(self):
        kept = keep(0, 2, 5)
        self.no(kept, change(0, 2, 2, 9), change(0, 5, 5, 9), change(0, 0, 0, 9), change(0, 8, 8, 9))
        self.no(kept, move(0, 0, 1, 2), move(0, 6, 7, 2), move(0, 0, 1, 5), move(0, 6, 7, 5))

    def test_a_keep_of_one_word_has_no_gap_within(self):
        self.no(keep(0, 2, 3), change(0, 2, 2, 9), change(0, 3, 3, 9), move(0, 0, 1, 2), move(0, 5, 6, 3))

    def test_a_keep_of_what_stands_between_a_move_and_its_gap(self):
        self.no(move(0, 0, 2, 6), keep(0, 2, 6), keep(0, 3, 4), keep(0, 6, 8))

    def test_changes_that_take_of_each_other_s_words(self):
        taking = change(0, 2, 5, 9)
        self.yes(taking, change(0, 4, 6, 9), change(0, 1, 3, 9), change(0, 3, 4, 9), change(0, 0, 8, 9), change(0, 4, 5))

    def test_changes_beside_one_another(self):
        taking = change(0, 2, 5, 9)
        self.no(taking, change(0, 5, 6, 9), change(0, 0, 2, 9), change(0, 6, 8), change(0, 0, 1))

    def test_a_change_that_puts_within_what_another_takes(self):
        self.yes(change(0, 2, 5, 9), change(0, 3, 3, 9), change(0, 4, 4, 9))
        self.yes(change(0, 2, 5), change(0, 3, 3, 9), change(0, 4, 4, 9))

    def test_a_change_that_puts_at_either_end_of_what_another_takes(self):
        self.yes(change(0, 2, 5, 9), change(0, 2, 2, 9))
        self.no(change(0, 2, 5, 9), change(0, 5, 5, 9))

    def test_changes_that_put_into_one_gap(self):
        self.yes(change(0, 3, 3, 9), change(0, 3, 3, 8), change(0, 3, 4, 9))
        self.yes(change(0, 8, 8, 9), change(0, 8, 8, 7))
        self.yes(change(0, 0, 0, 9), change(0, 0, 0, 7))
        self.no(change(0, 3, 3, 9), change(0, 4, 4, 9), change(0, 2, 2, 9), change(0, 2, 3, 9))

    def test_a_change_without_words_puts_into_its_gap_too(self):
        self.yes(change(0, 3, 5), change(0, 3, 3, 9), move(0, 0, 1, 3), move(0, 6, 7, 3))

    def test_a_move_and_a_change_that_take_of_each_other_s_words(self):
        moved = move(0, 2, 4, 7)
        self.yes(moved, change(0, 3, 5, 9), change(0, 2, 3), change(0, 0, 8, 9), change(0, 1, 3))

    def test_a_move_and_a_change_that_puts_within_the_words_moved(self):
        self.yes(move(0, 2, 5, 7), change(0, 3, 3, 9), change(0, 4, 4, 9))
        self.no(move(0, 2, 5, 7), change(0, 2, 2, 9), change(0, 5, 5, 9))

    def test_a_move_into_what_a_change_takes(self):
        moved = move(0, 0, 1, 5)
        self.yes(moved, change(0, 4, 6, 9), change(0, 4, 6), change(0, 3, 7))
        self.no(moved, change(0, 4, 5, 9), change(0, 3, 5), change(0, 6, 7, 9))

    def test_a_move_and_a_change_that_put_into_one_gap(self):
        self.yes(move(0, 0, 1, 5), change(0, 5, 5, 9), change(0, 5, 6, 9))
        self.yes(move(0, 4, 6, 8), change(0, 8, 8, 9))
        self.yes(move(0, 4, 6, 0), change(0, 0, 0, 9), change(0, 0, 1))
        self.no(move(0, 0, 1, 5), change(0, 4, 4, 9), change(0, 6, 6, 9))

    def test_moves_that_take_of_each_other_s_words(self):
        self.yes(move(0, 2, 5, 7), move(0, 4, 6, 0), move(0, 3, 4, 1), move(0, 1, 6, 8), move(0, 2, 5, 0))
        self.no(move(0, 2, 5, 7), move(0, 5, 6, 8), move(0, 0, 2, 8), move(0, 5, 6, 0))

    def test_a_move_into_the_words_of_another(self):
        self.yes(move(0, 0, 1, 4), move(0, 3, 5, 7), move(0, 2, 5, 1))
        self.no(move(0, 0, 1, 4), move(0, 4, 5, 7), move(0, 3, 4, 7))

    def test_moves_into_each_other_s_place(self):
        self.no(move(0, 0, 2, 5), move(0, 5, 7, 0), move(0, 3, 5, 0), move(0, 3, 5, 2))

    def test_moves_into_one_gap(self):
        self.yes(move(0, 0, 1, 4), move(0, 6, 7, 4), move(0, 2, 3, 4))
        self.yes(move(0, 0, 1, 8), move(0, 3, 5, 8))
        self.yes(move(0, 3, 4, 0), move(0, 6, 8, 0))


class Answer(unittest.TestCase):
    def test_no_marks(self):
        self.assertEqual(on_text(WORDS, clashes()), [[0]])
        self.assertEqual(on_text(WORDS, change(0, 0, 8), clashes()), [[0], [0]])

    def test_each_pair_by_the_lesser_then_by_the_other(self):
        found = on_text(
            WORDS, keep(0, 0, 8), change(0, 4, 5), change(0, 0, 1, 9), change(0, 4, 6), keep(0, 2, 3), change(0, 0, 0, 9),
            clashes(),
        )
        self.assertEqual(found[-1], [5, 0, 1, 0, 2, 0, 3, 1, 3, 2, 5])

    def test_all_pairs_of_ten(self):
        found = on_text(WORDS, *[change(0, 0, 0, word) for word in range(1, 11)], clashes())
        pairs = [(lesser, other) for lesser in range(10) for other in range(lesser + 1, 10)]
        self.assertEqual(found[-1], [45] + [number for pair in pairs for number in pair])

    def test_whose_they_are_and_what_they_weigh_is_no_matter(self):
        found = ask(text_of(WORDS), reader(1), reader(1000), change(1, 0, 1), change(1, 0, 2), change(0, 0, 3), clashes())
        self.assertEqual(found[-1], [3, 0, 1, 0, 2, 1, 2])

    def test_withdrawn_ones_are_left_out(self):
        marks = [change(0, 0, 1), change(0, 0, 2), change(0, 0, 3)]
        self.assertEqual(on_text(WORDS, *marks, withdraw(0), clashes())[-1], [1, 1, 2])
        self.assertEqual(on_text(WORDS, *marks, withdraw(1), clashes())[-1], [1, 0, 2])
        self.assertEqual(on_text(WORDS, *marks, withdraw(2), clashes())[-1], [1, 0, 1])
        self.assertEqual(on_text(WORDS, *marks, withdraw(2), withdraw(0), clashes())[-1], [0])

    def test_numbers_above_ten(self):
        calls = [call for number in range(12) for call in (keep(0, 0, 1), withdraw(number))]
        found = on_text(WORDS, *calls, change(0, 0, 1), change(0, 0, 2), clashes())
        self.assertEqual(found[-1], [1, 12, 13])

    def test_asked_twice(self):
        found = on_text(WORDS, change(0, 0, 1), change(0, 0, 2), clashes(), clashes())
        self.assertEqual(found[2:], [[1, 0, 1], [1, 0, 1]])


class EveryPair(unittest.TestCase):
    """All pairs of marks on a small text, held against the document's words spelled out over single words and gaps."""

    COUNT = 4

    def all_marks(self):
        places = range(self.COUNT + 1)
        ranges = [(i, j) for i in places for j in places if i <= j]
        marks = [("change", i, j, words) for i, j in ranges for words in ((), (9,), (9, 8)) if i < j or words]
        marks += [("keep", i, j, None) for i, j in ranges if i < j]
        return marks + [("move", i, j, k) for i, j in ranges if i < j for k in places if k < i or k > j]

    def call(self, mark):
        kind, i, j, rest = mark
        if kind == "change":
            return change(0, i, j, *rest)
        return keep(0, i, j) if kind == "keep" else move(0, i, j, rest)

    def words(self, mark):
        return set(range(mark[1], mark[2]))

    def gap(self, mark):
        return mark[1] if mark[0] == "change" else mark[3]

    def breaks(self, mark, words):
        within = self.gap(mark) in words and self.gap(mark) - 1 in words
        return bool(self.words(mark) & words) or within

    def expected(self, one, other):
        keeps = [mark for mark in (one, other) if mark[0] == "keep"]
        others = [mark for mark in (one, other) if mark[0] != "keep"]
        if one == other or len(keeps) == 2:
            return False
        if keeps:
            return self.breaks(others[0], self.words(keeps[0]))
        if self.gap(one) == self.gap(other):
            return True
        return self.breaks(one, self.words(other)) or self.breaks(other, self.words(one))

    def test_every_pair(self):
        marks = self.all_marks()
        for one in marks:
            for other in marks:
                found = on_text(self.COUNT, self.call(one), self.call(other), clashes())
                wanted = [1, 0, 1] if self.expected(one, other) else [0]
                self.assertEqual(found, [[0], [1], wanted], (one, other))


if __name__ == "__main__":
    unittest.main()
