import unittest

from proofmarks.marks import answers
from tests.calls import (
    begins, carry, change, clashes, gone, keep, mark, move, reader, shown, tested, text_of, who, withdraw,
)


def flat(*calls):
    return [number for call in calls for number in call]


# A list in which every call stands, answered and refused, over several proofs.
EVERY_CALL = flat(
    begins(1, 2, 3), reader(5), reader(9), change(0, 0, 1, 7, 8), change(0, 0, 2), keep(1, 0, 3), move(0, 0, 1, 3),
    clashes(), tested(0), tested(1, 3), tested(9), tested(), withdraw(1), withdraw(1), change(0, 2, 1, 7), reader(0),
    carry(), shown(), who(0), who(9), mark(0), mark(1), mark(2), mark(3), mark(9), gone(), carry(), shown(), gone(),
    change(0, 0, 0, *[6] * 20), carry(), who(0), begins(0), begins(4, 5), clashes(), shown(), gone(), carry(),
)


class Interface(unittest.TestCase):
    def test_numbers_as_they_stand(self):
        calls = [
            0, 3, 11, 12, 13,
            1, 5,
            2, 0, 0, 1, 2, 21, 22,
            3, 0, 0, 2,
            4, 0, 1, 2, 0,
            6,
            5, 1,
            6,
            5, 1,
        ]
        self.assertEqual(answers(calls), [1, 3, 1, 0, 1, 0, 1, 1, 1, 2, 7, 3, 0, 1, 0, 2, 1, 2, 1, 0, 3, 1, 0, 2, 1, -4])

    def test_the_numbers_of_the_other_calls_as_they_stand(self):
        calls = [
            0, 3, 11, 12, 13,
            1, 5,
            1, 6,
            2, 0, 0, 1, 2, 21, 22,
            2, 1, 0, 0, 1, 23,
            4, 0, 2, 3, 1,
            12, 2, 2, 0,
            12, 0,
            7,
            8,
            9, 0,
            9, 2,
            9, 4,
            10, 0,
            10, 1,
            11,
            7,
            10, 0,
            11,
            12, 1, 1,
            3, 1, 0, 1,
            10, 3,
            4, 1, 0, 1, 2,
            10, 4,
        ]
        self.assertEqual(answers(calls), [
            1, 3,
            1, 0,
            1, 1,
            1, 0,
            1, 1,
            1, 2,
            5, 4, 21, 22, 13, 12,
            4, 3, 11, 12, 13,
            4, 11, 2, 1, 2,
            5, 4, 23, 11, 13, 12,
            3, 1, 1, 1,
            2, 0, 2,
            1, -6,
            8, 0, 0, 0, 1, 2, 2, 21, 22,
            3, 1, 1, 0,
            1, 0,
            3, 5, 1, 0,
            3, 1, 0, 1,
            3, 1, 0, 0,
            1, -2,
            1, 3,
            5, 0, 1, 1, 0, 1,
            1, 4,
            6, 0, 1, 2, 0, 1, 2,
        ])

    def test_a_single_call(self):
        self.assertEqual(answers([0, 0]), [1, 0])
        self.assertEqual(answers([6]), [1, 0])
        self.assertEqual(answers([5, 0]), [1, -2])
        self.assertEqual(answers([1, 0]), [1, -1])
        self.assertEqual(answers([7]), [2, 0, 0])
        self.assertEqual(answers([8]), [1, 0])
        self.assertEqual(answers([9, 0]), [1, -6])
        self.assertEqual(answers([10, 0]), [1, -2])
        self.assertEqual(answers([11]), [1, 0])
        self.assertEqual(answers([12, 0]), [1, 0])
        self.assertEqual(answers([12, 1, 0]), [1, -2])

    def test_rows_may_hold_what_looks_like_calls(self):
        self.assertEqual(answers([0, 4, 6, 6, 6, 6, 1, 1, 2, 0, 0, 0, 2, 6, 6, 6]), [1, 4, 1, 0, 1, 0, 1, 0])

    def test_a_refused_call_s_row_is_gone_past(self):
        self.assertEqual(answers([0, 2, 0, 6, 6]), [1, -1, 1, 0])
        self.assertEqual(answers([2, 0, 0, 0, 3, 6, 6, 6, 6]), [1, -2, 1, 0])
        self.assertEqual(answers([0, 120] + [6] * 120 + [6]), [1, -1, 1, 0])
        self.assertEqual(answers([1, 1, 2, 0, 0, 0, 40] + [6] * 40 + [6]), [1, 0, 1, -1, 1, 0])
        self.assertEqual(answers([12, 2, 7, 8, 6]), [1, -2, 1, 0])
        self.assertEqual(answers([12, 40] + list(range(40)) + [8]), [1, -2, 1, 0])

    def test_an_empty_row(self):
        self.assertEqual(answers([0, 1, 7, 1, 1, 2, 0, 0, 1, 0, 6, 0, 0, 6]), [1, 1, 1, 0, 1, 0, 1, 0, 1, 0, 1, 0])

    def test_a_hundred_calls(self):
        self.assertEqual(answers([6] * 100), [1, 0] * 100)
        self.assertEqual(answers(text_of(100) * 100), [1, 100] * 100)
        self.assertEqual(answers(text_of(100) + [8] * 99), [1, 100] + [101, 100, *range(1, 101)] * 99)

    def test_the_greatest_numbers(self):
        most = 4294967295
        calls = flat(begins(most), reader(most), change(most, most, most, most), keep(most, most, most))
        calls += flat(move(most, most, most, most), withdraw(most), who(most), mark(most), tested(most))
        self.assertEqual(answers(calls), [1, -1, 1, -1, 1, -2, 1, -2, 1, -2, 1, -2, 1, -6, 1, -2, 1, -2])

    def test_what_is_handed_in_is_as_it_was(self):
        calls = list(EVERY_CALL)
        answers(calls)
        self.assertEqual(calls, EVERY_CALL)

    def test_what_is_handed_in_is_never_written_to(self):
        class Guarded(list):
            def refuse(self, *rest):
                raise AssertionError("written to")

            append = extend = insert = pop = remove = clear = reverse = sort = refuse
            __setitem__ = __delitem__ = __iadd__ = __imul__ = refuse

        self.assertEqual(answers(Guarded(EVERY_CALL)), answers(EVERY_CALL))

    def test_nothing_is_kept_from_one_time_to_the_next(self):
        first = answers(EVERY_CALL)
        self.assertEqual(answers(EVERY_CALL), first)
        self.assertEqual(answers(flat(keep(0, 0, 1), withdraw(0), clashes())), [1, -2, 1, -2, 1, 0])
        self.assertEqual(answers(flat(shown(), gone(), carry(), mark(0), who(0))), [1, 0, 1, 0, 2, 0, 0, 1, -2, 1, -6])
        self.assertEqual(answers(flat(reader(5), keep(0, 0, 1))), [1, 0, 1, -1])
        self.assertEqual(answers(EVERY_CALL), first)

    def test_what_is_given_back_is_a_new_list_of_whole_numbers(self):
        first = answers(EVERY_CALL)
        second = answers(EVERY_CALL)
        self.assertIs(type(first), list)
        self.assertEqual({type(number) for number in first}, {int})
        first.append(1)
        self.assertNotEqual(first, second)
        self.assertEqual(answers(EVERY_CALL), second)


if __name__ == "__main__":
    unittest.main()
