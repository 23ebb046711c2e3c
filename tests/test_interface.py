import unittest

from proofmarks.marks import answers
from tests.calls import begins, change, clashes, keep, move, reader, text_of, withdraw


def flat(*calls):
    return [number for call in calls for number in call]


class Interface(unittest.TestCase):
    def test_numbers_as_they_stand(self):
        calls = [
            0, 3, 11, 12, 13,
            1, 5,
            2, 0, 0, 1, 2, 21, 22,
            3, 0, 0, 2,
            4, 0, 1, 2, 0,
            6,
            5, 1,
            6,
            5, 1,
        ]
        self.assertEqual(answers(calls), [1, 3, 1, 0, 1, 0, 1, 1, 1, 2, 7, 3, 0, 1, 0, 2, 1, 2, 1, 0, 3, 1, 0, 2, 1, -4])

    def test_a_single_call(self):
        self.assertEqual(answers([0, 0]), [1, 0])
        self.assertEqual(answers([6]), [1, 0])
        self.assertEqual(answers([5, 0]), [1, -2])
        self.assertEqual(answers([1, 0]), [1, -1])

    def test_rows_may_hold_what_looks_like_calls(self):
        self.assertEqual(answers([0, 4, 6, 6, 6, 6, 1, 1, 2, 0, 0, 0, 2, 6, 6, 6]), [1, 4, 1, 0, 1, 0, 1, 0])

    def test_a_refused_call_s_row_is_gone_past(self):
        self.assertEqual(answers([0, 2, 0, 6, 6]), [1, -1, 1, 0])
        self.assertEqual(answers([2, 0, 0, 0, 3, 6, 6, 6, 6]), [1, -2, 1, 0])
        self.assertEqual(answers([0, 120] + [6] * 120 + [6]), [1, -1, 1, 0])
        self.assertEqual(answers([1, 1, 2, 0, 0, 0, 40] + [6] * 40 + [6]), [1, 0, 1, -1, 1, 0])

    def test_an_empty_row(self):
        self.assertEqual(answers([0, 1, 7, 1, 1, 2, 0, 0, 1, 0, 6, 0, 0, 6]), [1, 1, 1, 0, 1, 0, 1, 0, 1, 0, 1, 0])

    def test_a_hundred_calls(self):
        self.assertEqual(answers([6] * 100), [1, 0] * 100)
        self.assertEqual(answers(text_of(100) * 100), [1, 100] * 100)

    def test_the_greatest_numbers(self):
        most = 4294967295
        calls = flat(begins(most), reader(most), change(most, most, most, most), keep(most, most, most))
        calls += flat(move(most, most, most, most), withdraw(most))
        self.assertEqual(answers(calls), [1, -1, 1, -1, 1, -2, 1, -2, 1, -2, 1, -2])

    def test_what_is_handed_in_is_as_it_was(self):
        calls = flat(
            begins(1, 2, 3), reader(5), change(0, 0, 1, 7, 8), change(0, 0, 2), keep(0, 0, 3), move(0, 0, 1, 3),
            clashes(), withdraw(1), withdraw(1), change(0, 2, 1, 7), begins(0), begins(4, 5), clashes(),
        )
        before = list(calls)
        answers(calls)
        self.assertEqual(calls, before)

    def test_what_is_handed_in_is_never_written_to(self):
        class Guarded(list):
            def refuse(self, *rest):
                raise AssertionError("written to")

            append = extend = insert = pop = remove = clear = reverse = sort = refuse
            __setitem__ = __delitem__ = __iadd__ = __imul__ = refuse

        calls = flat(begins(1, 2, 3), reader(5), change(0, 0, 1, 7), change(0, 0, 2), clashes(), withdraw(0), begins(0))
        self.assertEqual(answers(Guarded(calls)), answers(calls))

    def test_nothing_is_kept_from_one_time_to_the_next(self):
        calls = flat(begins(1, 2, 3), reader(5), change(0, 0, 1, 7), change(0, 0, 2), clashes(), withdraw(0), clashes())
        first = answers(calls)
        self.assertEqual(answers(calls), first)
        self.assertEqual(answers(flat(keep(0, 0, 1), withdraw(0), clashes())), [1, -2, 1, -2, 1, 0])
        self.assertEqual(answers(flat(reader(5), keep(0, 0, 1))), [1, 0, 1, -1])
        self.assertEqual(answers(calls), first)

    def test_what_is_given_back_is_a_new_list_of_whole_numbers(self):
        calls = flat(begins(1), reader(1), change(0, 0, 1), change(0, 0, 0, 5), clashes(), withdraw(0), withdraw(0))
        first = answers(calls)
        second = answers(calls)
        self.assertIs(type(first), list)
        self.assertEqual({type(number) for number in first}, {int})
        first.append(1)
        self.assertNotEqual(first, second)
        self.assertEqual(answers(calls), second)


if __name__ == "__main__":
    unittest.main()
