import unittest

from tests.calls import ask, begins, change, clashes, keep, last, move, reader, text_of, withdraw


class Begins(unittest.TestCase):
    def test_answers_how_many_words(self):
        self.assertEqual(ask(begins(7, 8, 9)), [[3]])

    def test_a_text_may_have_no_words(self):
        self.assertEqual(ask(begins()), [[0]])

    def test_like_words_each_count(self):
        self.assertEqual(ask(begins(5, 5, 5, 5)), [[4]])

    def test_the_least_and_the_greatest_word(self):
        self.assertEqual(ask(begins(1)), [[1]])
        self.assertEqual(ask(begins(99999)), [[1]])
        self.assertEqual(ask(begins(1, 99999)), [[2]])

    def test_what_is_no_word(self):
        self.assertEqual(ask(begins(0)), [[-1]])
        self.assertEqual(ask(begins(100000)), [[-1]])
        self.assertEqual(ask(begins(4294967295)), [[-1]])

    def test_what_is_no_word_at_any_place(self):
        for wrong in (0, 100000):
            self.assertEqual(ask(begins(wrong, 2, 3)), [[-1]])
            self.assertEqual(ask(begins(1, wrong, 3)), [[-1]])
            self.assertEqual(ask(begins(1, 2, wrong)), [[-1]])

    def test_a_hundred_words_at_the_most(self):
        self.assertEqual(ask(text_of(99)), [[99]])
        self.assertEqual(ask(text_of(100)), [[100]])
        self.assertEqual(ask(text_of(101)), [[-1]])
        self.assertEqual(ask(text_of(120)), [[-1]])

    def test_has_no_readers_afterwards(self):
        found = ask(reader(1), reader(2), begins(1, 2), keep(0, 0, 1), reader(3), keep(0, 0, 1), keep(1, 0, 1))
        self.assertEqual(found, [[0], [1], [2], [-2], [0], [0], [-2]])

    def test_a_text_without_words_starts_anew_too(self):
        found = ask(begins(1, 2), reader(1), begins(), keep(0, 0, 1), reader(1), keep(0, 0, 1))
        self.assertEqual(found, [[2], [0], [0], [-2], [0], [-1]])

    def test_has_no_marks_afterwards(self):
        found = ask(
            begins(1, 2), reader(1), change(0, 0, 1), change(0, 0, 2), clashes(),
            begins(3, 4, 5), clashes(), withdraw(0), reader(1), keep(0, 2, 3), withdraw(1), withdraw(0),
        )
        self.assertEqual(found[4], [1, 0, 1])
        self.assertEqual(found[5:], [[3], [0], [-2], [0], [0], [-2], [0]])

    def test_has_all_room_afterwards(self):
        readers = [reader(1)] * 8
        marks = [keep(0, 0, 1)] * 10
        found = ask(begins(1), *readers, *marks, begins(1), *readers, *marks)
        self.assertEqual(found[19:], [[1]] + [[n] for n in range(8)] + [[n] for n in range(10)])

    def test_forgets_how_many_marks_there_were_in_all(self):
        pairs = [call for n in range(40) for call in (keep(0, 0, 1), withdraw(n))]
        found = ask(begins(1), reader(1), *pairs, begins(1), reader(1), *[keep(0, 0, 1)] * 10)
        self.assertEqual(found[82:], [[1], [0]] + [[n] for n in range(10)])

    def test_has_the_new_text_s_length(self):
        self.assertEqual(last(begins(1, 2, 3), begins(1), reader(1), keep(0, 0, 2)), [-1])
        self.assertEqual(last(begins(1), begins(1, 2, 3), reader(1), keep(0, 0, 3)), [0])

    def test_refused_changes_nothing(self):
        for refused in (begins(0), begins(1, 100000), text_of(101)):
            found = ask(
                begins(1, 2, 3), reader(1), change(0, 0, 1), change(0, 0, 2), refused,
                clashes(), keep(0, 0, 3), keep(0, 0, 4), reader(1),
            )
            self.assertEqual(found[4:], [[-1], [1, 0, 1], [2], [-1], [1]])


class AtTheBeginning(unittest.TestCase):
    def test_the_text_has_no_words(self):
        found = ask(reader(1), keep(0, 0, 1), change(0, 0, 1, 5), change(0, 1, 1, 5), change(0, 0, 0, 5))
        self.assertEqual(found, [[0], [-1], [-1], [-1], [0]])

    def test_a_text_without_words_can_only_be_put_into(self):
        self.assertEqual(ask(reader(1), move(0, 0, 1, 2), move(0, 0, 0, 1)), [[0], [-1], [-1]])

    def test_there_is_no_reader_and_no_mark(self):
        self.assertEqual(ask(change(0, 0, 0, 5)), [[-2]])
        self.assertEqual(ask(keep(0, 0, 1)), [[-2]])
        self.assertEqual(ask(move(0, 0, 1, 2)), [[-2]])
        self.assertEqual(ask(withdraw(0)), [[-2]])
        self.assertEqual(ask(clashes()), [[0]])


class Reader(unittest.TestCase):
    def test_numbers_are_from_0(self):
        self.assertEqual(ask(reader(5), reader(5), reader(7)), [[0], [1], [2]])

    def test_the_edges_of_the_weight(self):
        self.assertEqual(ask(reader(0)), [[-1]])
        self.assertEqual(ask(reader(1)), [[0]])
        self.assertEqual(ask(reader(1000)), [[0]])
        self.assertEqual(ask(reader(1001)), [[-1]])
        self.assertEqual(ask(reader(4294967295)), [[-1]])

    def test_refused_is_no_reader(self):
        found = ask(begins(1), reader(0), keep(0, 0, 1), reader(1001), keep(0, 0, 1), reader(1), keep(0, 0, 1))
        self.assertEqual(found, [[1], [-1], [-2], [-1], [-2], [0], [0]])

    def test_eight_at_the_most(self):
        found = ask(*[reader(1)] * 9, reader(1))
        self.assertEqual(found, [[n] for n in range(8)] + [[-5], [-5]])

    def test_the_ninth_is_none(self):
        found = ask(begins(1), *[reader(1)] * 9, keep(7, 0, 1), keep(8, 0, 1))
        self.assertEqual(found[9:], [[-5], [0], [-2]])

    def test_a_wrong_weight_is_told_ahead_of_too_many(self):
        found = ask(*[reader(1)] * 8, reader(0), reader(1001), reader(1000))
        self.assertEqual(found[8:], [[-1], [-1], [-5]])


if __name__ == "__main__":
    unittest.main()
