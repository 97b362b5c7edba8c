"""Promise 1 and the interface: begins, kind and stave as one list of calls tells them."""

import unittest

from caskordersdesk.shop import answers

LARGEST = 4294967295
KIND_NAMES = ("around", "off", "few", "many", "holds")


def begins():
    return [0]


def kind(around=90, off=6, few=2, many=5, holds=12):
    return [1, around, off, few, many, holds]


def stave(width=20):
    return [2, width]


def joined(calls):
    return [number for call in calls for number in call]


def first_numbers(*calls):
    """Answer calls that each answer one number alone; give back these numbers."""
    given = answers(joined(calls))
    if given[0::2] != [1] * len(calls):
        raise AssertionError(f"not one number for each call: {given}")
    return given[1::2]


class UnchangingList(list):
    """A list that can be read, but fails as soon as it is to be changed."""

    def refuse(self, *arguments, **keywords):
        raise AssertionError("the list handed in was to be changed")

    append = extend = insert = pop = remove = clear = sort = reverse = refuse
    __setitem__ = __delitem__ = __iadd__ = __imul__ = refuse


class FormTest(unittest.TestCase):
    def test_each_answer_has_its_count_before_it(self):
        self.assertEqual(answers([0]), [1, 0])
        self.assertEqual(answers([1, 90, 6, 2, 5, 12]), [1, 0])
        self.assertEqual(answers([2, 20]), [1, 0])
        self.assertEqual(answers([2, 20, 2, 0, 1, 90, 6, 2, 5, 12, 0, 2, 7]),
                         [1, 0, 1, -1, 1, 0, 1, 0, 1, 0])

    def test_a_refusal_stands_alone(self):
        self.assertEqual(answers([1, 0, 6, 2, 5, 12]), [1, -1])
        self.assertEqual(answers([2, 61]), [1, -1])
        self.assertEqual(answers(joined([stave()] * 8))[-2:], [1, -5])
        self.assertEqual(answers(joined([kind()] * 4))[-2:], [1, -5])

    def test_numbers_like_a_calls_own_are_no_calls(self):
        self.assertEqual(answers([1, 2, 0, 1, 2, 1, 2, 2, 1, 1, 0, 1, 1, 1, 2, 1]), [1, 0, 1, 0, 1, 1, 1, 1])

    def test_a_list_of_whole_numbers_is_given_back(self):
        given = answers(joined([begins(), kind(), stave(), stave(0)]))
        self.assertIs(type(given), list)
        self.assertEqual({type(number) for number in given}, {int})

    def test_forty_calls(self):
        calls = [begins()] * 40
        self.assertEqual(first_numbers(*calls), [0] * 40)
        self.assertEqual(first_numbers(*[kind()] * 40), [0, 1, 2] + [-5] * 37)

    def test_what_is_handed_in_stays_as_it_was(self):
        calls = joined([begins(), kind(), stave(), kind(around=0), stave(61), begins(), stave()])
        before = list(calls)
        answers(calls)
        self.assertEqual(calls, before)
        self.assertEqual(answers(UnchangingList(before)), answers(before))

    def test_what_is_given_back_is_another_list_each_time(self):
        calls = begins()
        given = answers(calls)
        given.append(5)
        self.assertEqual(answers(calls), [1, 0])
        self.assertEqual(calls, [0])

    def test_a_second_run_starts_anew(self):
        full = joined([kind()] * 3 + [stave()] * 7)
        first = answers(full)
        self.assertEqual(first, [1, 0, 1, 1, 1, 2] + joined([1, number] for number in range(7)))
        self.assertEqual(answers(full), first)


class NumberingTest(unittest.TestCase):
    def test_begins_answers_0(self):
        self.assertEqual(first_numbers(begins(), begins()), [0, 0])

    def test_kinds_and_staves_are_numbered_apart(self):
        self.assertEqual(
            first_numbers(stave(), kind(), stave(), stave(), kind(), begins(), kind()),
            [0, 0, 1, 2, 1, 0, 0])

    def test_begins_starts_the_numbering_again(self):
        filled = [kind()] * 3 + [stave()] * 7
        numbers = [0, 1, 2, 0, 1, 2, 3, 4, 5, 6]
        self.assertEqual(first_numbers(*filled, begins(), *filled, kind(), stave()),
                         numbers + [0] + numbers + [-5, -5])

    def test_the_same_kind_or_width_again_has_a_number_of_its_own(self):
        self.assertEqual(first_numbers(kind(), kind(), stave(9), stave(9)), [0, 1, 0, 1])


class KindTest(unittest.TestCase):
    def answered(self, **numbers):
        return first_numbers(kind(**numbers))[0]

    def test_each_number_at_its_least_and_its_most(self):
        for numbers in (
            {"around": 1}, {"around": 400}, {"off": 0}, {"off": 60}, {"holds": 1}, {"holds": 60},
            {"few": 1}, {"few": 5}, {"many": 2}, {"many": 8},
            {"few": 1, "many": 1}, {"few": 8, "many": 8}, {"few": 1, "many": 8},
        ):
            with self.subTest(numbers):
                self.assertEqual(self.answered(**numbers), 0)

    def test_all_at_once_at_the_least_and_the_most(self):
        self.assertEqual(first_numbers(kind(1, 0, 1, 1, 1), kind(400, 60, 8, 8, 60)), [0, 1])

    def test_one_below_and_one_above(self):
        for numbers in (
            {"around": 0}, {"around": 401}, {"off": 61}, {"holds": 0}, {"holds": 61},
            {"few": 0}, {"few": 9}, {"many": 0}, {"many": 9},
            {"few": 0, "many": 0}, {"few": 9, "many": 9}, {"few": 8, "many": 9}, {"few": 0, "many": 1},
        ):
            with self.subTest(numbers):
                self.assertEqual(self.answered(**numbers), -1)

    def test_few_is_no_more_than_many(self):
        for few in range(1, 9):
            for many in range(1, 9):
                with self.subTest(few=few, many=many):
                    self.assertEqual(self.answered(few=few, many=many), 0 if few <= many else -1)

    def test_the_largest_number(self):
        for name in KIND_NAMES:
            with self.subTest(name):
                self.assertEqual(self.answered(**{name: LARGEST}), -1)
        self.assertEqual(first_numbers([1] + [LARGEST] * 5), [-1])

    def test_the_fourth(self):
        self.assertEqual(first_numbers(kind(), kind(), kind(), kind(), kind()), [0, 1, 2, -5, -5])

    def test_a_wrong_number_is_told_ahead_of_too_many(self):
        for name in KIND_NAMES:
            with self.subTest(name):
                wrong = kind(**{name: LARGEST})
                self.assertEqual(first_numbers(kind(), kind(), kind(), wrong, kind()), [0, 1, 2, -1, -5])

    def test_a_refused_one_has_no_number(self):
        self.assertEqual(first_numbers(kind(holds=0), kind(), kind(few=6), kind(), stave(), kind(off=61), kind()),
                         [-1, 0, -1, 1, 0, -1, 2])

    def test_refused_ones_leave_the_staves_as_they_were(self):
        self.assertEqual(first_numbers(stave(), *[kind()] * 4, kind(0), stave()), [0, 0, 1, 2, -5, -1, 1])


class StaveTest(unittest.TestCase):
    def test_widths(self):
        for width, number in ((0, -1), (1, 0), (2, 0), (59, 0), (60, 0), (61, -1), (LARGEST, -1)):
            with self.subTest(width):
                self.assertEqual(first_numbers(stave(width)), [number])

    def test_the_eighth(self):
        self.assertEqual(first_numbers(*[stave()] * 9), [0, 1, 2, 3, 4, 5, 6, -5, -5])

    def test_a_wrong_width_is_told_ahead_of_too_many(self):
        for width in (0, 61, LARGEST):
            with self.subTest(width):
                self.assertEqual(first_numbers(*[stave()] * 7, stave(width), stave())[7:], [-1, -5])

    def test_a_refused_one_has_no_number(self):
        self.assertEqual(first_numbers(stave(0), stave(), stave(61), stave(), kind(), stave(LARGEST), stave()),
                         [-1, 0, -1, 1, 0, -1, 2])

    def test_refused_ones_leave_the_kinds_as_they_were(self):
        self.assertEqual(first_numbers(kind(), *[stave()] * 8, stave(0), kind())[-3:], [-5, -1, 1])


if __name__ == "__main__":
    unittest.main()
