"""Promise 2, check: what a pack holds, its casks and its waste, or why it is none."""

import unittest

from caskordersdesk.shop import answers

LARGEST = 4294967295


def begins():
    return [0]


def kind(around, off, few, many, holds):
    return [1, around, off, few, many, holds]


def stave(width):
    return [2, width]


def check(*casks):
    """A call of check; each cask is a pair, its set and its kind."""
    row = [number for cask in casks for number in cask]
    return [3, len(row)] + row


def joined(calls):
    return [number for call in calls for number in call]


def each_answer(*calls):
    """Give back a list for each call: what it answers, without the count before it."""
    given = answers(joined(calls))
    split = []
    while given:
        split.append(given[1:1 + given[0]])
        given = given[1 + given[0]:]
    if len(split) != len(calls):
        raise AssertionError(f"{len(split)} answers to {len(calls)} calls")
    return split


def checked(shop, *casks):
    return each_answer(*shop, check(*casks))[-1]


# For kind 0 go round sets 1 (waste 0) and 2 (waste 6); for kind 1 set 5 alone (waste 0);
# for kind 2 sets 4 (waste 2), 1 (waste 10) and 2 (waste 16).
SHOP = [kind(20, 6, 1, 1, 7), kind(32, 3, 2, 3, 9), kind(10, 20, 1, 1, 60),
        stave(20), stave(26), stave(12)]


class PackTest(unittest.TestCase):
    def test_no_casks(self):
        self.assertEqual(checked(SHOP), [0, 0, 0])
        self.assertEqual(checked([]), [0, 0, 0])
        self.assertEqual(answers([3, 0]), [3, 0, 0, 0])

    def test_one_cask(self):
        for cask, due in (((1, 0), [7, 1, 0]), ((2, 0), [7, 1, 6]), ((5, 1), [9, 1, 0]),
                          ((4, 2), [60, 1, 2]), ((1, 2), [60, 1, 10]), ((2, 2), [60, 1, 16])):
            with self.subTest(cask):
                self.assertEqual(checked(SHOP, cask), due)

    def test_several_casks(self):
        self.assertEqual(checked(SHOP, (2, 0), (5, 1)), [16, 2, 6])
        self.assertEqual(checked(SHOP, (1, 0), (2, 0)), [14, 2, 6])
        self.assertEqual(checked(SHOP, (1, 0), (2, 2), (4, 2)), [127, 3, 18])

    def test_whichever_order_they_are_told_in(self):
        for casks in (((1, 0), (2, 2), (4, 2)), ((4, 2), (2, 2), (1, 0)), ((2, 2), (4, 2), (1, 0))):
            with self.subTest(casks):
                self.assertEqual(checked(SHOP, *casks), [127, 3, 18])

    def test_seven_casks(self):
        shop = [kind(1, 60, 1, 8, 60)] + [stave(width) for width in (1, 2, 3, 4, 5, 6, 60)]
        casks = [(1, 0), (2, 0), (4, 0), (8, 0), (16, 0), (32, 0), (64, 0)]
        self.assertEqual(checked(shop, *casks), [420, 7, 74])
        self.assertEqual(checked(shop, *casks, (64, 0)), [-7, 7])

    def test_the_count_ahead_of_the_row_is_kept(self):
        self.assertEqual(answers([3, 0, 0, 3, 0, 2, 5]), [3, 0, 0, 0, 1, 0, 3, 0, 0, 0, 1, 0])
        self.assertEqual(each_answer(*SHOP, check((2, 0), (5, 1)), check(), begins(), check((5, 1)))[6:],
                         [[16, 2, 6], [0, 0, 0], [0], [-1]])


class RoundTest(unittest.TestCase):
    def test_the_set_0_goes_round_for_no_kind(self):
        for number in range(3):
            with self.subTest(number):
                self.assertEqual(checked(SHOP, (0, number)), [-6, 0])
        self.assertEqual(checked([kind(1, 60, 1, 8, 1)], (0, 0)), [-6, 0])

    def test_the_width_at_its_least_and_its_most(self):
        for width, due in ((29, [-6, 0]), (30, [4, 1, 0]), (31, [4, 1, 1]), (35, [4, 1, 5]), (36, [-6, 0])):
            with self.subTest(width):
                self.assertEqual(checked([kind(30, 5, 1, 8, 4), stave(width)], (1, 0)), due)

    def test_nothing_may_be_planed_off(self):
        for width, due in ((29, [-6, 0]), (30, [4, 1, 0]), (31, [-6, 0])):
            with self.subTest(width):
                self.assertEqual(checked([kind(30, 0, 1, 8, 4), stave(width)], (1, 0)), due)

    def test_how_many_staves_at_the_least_and_the_most(self):
        shop = [kind(1, 60, 2, 3, 4)] + [stave(5)] * 4
        for staves, due in ((1, [-6, 0]), (3, [4, 1, 9]), (10, [4, 1, 9]), (13, [4, 1, 14]), (15, [-6, 0])):
            with self.subTest(staves):
                self.assertEqual(checked(shop, (staves, 0)), due)

    def test_seven_staves(self):
        staves = [stave(10)] * 7
        self.assertEqual(checked([kind(70, 0, 7, 7, 4)] + staves, (127, 0)), [4, 1, 0])
        self.assertEqual(checked([kind(70, 0, 1, 6, 4)] + staves, (127, 0)), [-6, 0])
        self.assertEqual(checked([kind(70, 0, 8, 8, 4)] + staves, (127, 0)), [-6, 0])
        self.assertEqual(checked([kind(400, 60, 1, 8, 4)] + [stave(60)] * 7, (127, 0)), [4, 1, 20])

    def test_each_stave_has_its_own_place_in_the_set(self):
        widths = (3, 7, 15, 31, 60, 1, 11)
        shop = [kind(1, 60, 1, 8, 4)] + [stave(width) for width in widths]
        for place, width in enumerate(widths):
            with self.subTest(place):
                self.assertEqual(checked(shop, (2 ** place, 0)), [4, 1, width - 1])
        self.assertEqual(checked(shop, (2 + 8 + 64, 0)), [4, 1, 7 + 31 + 11 - 1])


class RefusalTest(unittest.TestCase):
    def test_sets_of_these_staves_alone(self):
        for staves in (8, 9, 15, 16, 2 ** 31, LARGEST):
            with self.subTest(staves):
                self.assertEqual(checked(SHOP, (staves, 0)), [-1])
        self.assertEqual(checked(SHOP, (7, 0)), [-6, 0])
        self.assertEqual(checked([kind(1, 60, 1, 8, 1)], (1, 0)), [-1])
        whole = [kind(1, 60, 1, 8, 1)] + [stave(2)] * 7
        self.assertEqual(checked(whole, (127, 0)), [1, 1, 13])
        self.assertEqual(checked(whole, (128, 0)), [-1])

    def test_the_largest_set_grows_with_the_staves(self):
        calls = [kind(1, 60, 1, 8, 1), check((1, 0)), stave(2), check((1, 0)), check((2, 0)), stave(2),
                 check((3, 0)), check((4, 0))]
        self.assertEqual(each_answer(*calls)[1:], [[-1], [0], [1, 1, 1], [-1], [1], [1, 1, 3], [-1]])

    def test_kinds_that_are_there_alone(self):
        for number in (3, 4, LARGEST):
            with self.subTest(number):
                self.assertEqual(checked(SHOP, (1, number)), [-1])
                self.assertEqual(checked(SHOP, (0, number)), [-1])
        self.assertEqual(checked(SHOP[3:], (1, 0)), [-1])
        self.assertEqual(checked(SHOP[1:], (1, 1)), [60, 1, 10])
        self.assertEqual(checked(SHOP[1:], (1, 2)), [-1])

    def test_a_wrong_one_in_any_place_stands_alone(self):
        for casks in (((8, 0), (1, 0), (2, 0)), ((1, 0), (8, 0), (2, 0)), ((1, 0), (2, 0), (8, 0)),
                      ((1, 3), (1, 0), (2, 0)), ((1, 0), (1, 3), (2, 0)), ((1, 0), (2, 0), (1, 3))):
            with self.subTest(casks):
                self.assertEqual(checked(SHOP, *casks), [-1])

    def test_the_first_that_does_not_go_round(self):
        self.assertEqual(checked(SHOP, (4, 0)), [-6, 0])
        self.assertEqual(checked(SHOP, (3, 1)), [-6, 0])
        self.assertEqual(checked(SHOP, (2, 0), (1, 1)), [-6, 1])
        self.assertEqual(checked(SHOP, (2, 0), (1, 0), (4, 0)), [-6, 2])
        self.assertEqual(checked(SHOP, (2, 0), (4, 0), (0, 0), (1, 0)), [-6, 1])

    def test_it_goes_round_for_its_own_kind(self):
        self.assertEqual(checked(SHOP, (4, 2), (4, 0)), [-6, 1])
        self.assertEqual(checked(SHOP, (5, 1), (2, 1)), [-6, 1])

    def test_the_first_that_has_a_stave_in_one_before_it(self):
        self.assertEqual(checked(SHOP, (1, 0), (1, 0)), [-7, 1])
        self.assertEqual(checked(SHOP, (1, 0), (1, 2)), [-7, 1])
        self.assertEqual(checked(SHOP, (1, 0), (2, 0), (1, 0)), [-7, 2])
        self.assertEqual(checked(SHOP, (1, 0), (2, 0), (2, 0)), [-7, 2])
        self.assertEqual(checked(SHOP, (1, 0), (5, 1)), [-7, 1])
        self.assertEqual(checked(SHOP, (5, 1), (2, 0), (4, 2), (1, 0)), [-7, 2])
        self.assertEqual(checked(SHOP, (2, 0), (1, 0), (1, 0), (2, 0)), [-7, 2])

    def test_a_stave_in_common_is_enough(self):
        shop = [kind(1, 60, 1, 8, 1)] + [stave(2)] * 7
        self.assertEqual(checked(shop, (7, 0), (24, 0), (100, 0)), [-7, 2])
        self.assertEqual(checked(shop, (7, 0), (24, 0), (96, 0)), [3, 3, 11])

    def test_minus_1_ahead_of_minus_6(self):
        self.assertEqual(checked(SHOP, (4, 0), (8, 0)), [-1])
        self.assertEqual(checked(SHOP, (4, 0), (1, 3)), [-1])
        self.assertEqual(checked(SHOP, (8, 0), (4, 0)), [-1])

    def test_minus_1_ahead_of_minus_7(self):
        self.assertEqual(checked(SHOP, (1, 0), (1, 0), (8, 0)), [-1])
        self.assertEqual(checked(SHOP, (1, 0), (1, 0), (2, 3)), [-1])

    def test_minus_6_ahead_of_minus_7(self):
        self.assertEqual(checked(SHOP, (1, 0), (1, 0), (4, 0)), [-6, 2])
        self.assertEqual(checked(SHOP, (1, 0), (1, 0), (0, 0)), [-6, 2])
        self.assertEqual(checked(SHOP, (1, 0), (1, 1), (1, 0)), [-6, 1])

    def test_all_three_at_once(self):
        self.assertEqual(checked(SHOP, (1, 0), (1, 0), (4, 0), (8, 0)), [-1])
        self.assertEqual(checked(SHOP, (1, 0), (1, 0), (4, 0), (1, LARGEST)), [-1])


class ShopTest(unittest.TestCase):
    def test_the_shop_stays_as_it_was(self):
        asked = [check((2, 0), (5, 1)), check((8, 0)), check((4, 0)), check((1, 0), (1, 0))]
        due = [[16, 2, 6], [-1], [-6, 0], [-7, 1]]
        self.assertEqual(each_answer(*SHOP, *asked, *asked, stave(20), kind(1, 0, 1, 1, 1), *asked[:1])[6:],
                         due + due + [[3], [-5], [16, 2, 6]])

    def test_begins_leaves_nothing(self):
        calls = SHOP + [begins(), check(), check((1, 0)), check((0, 0)), stave(20), check((1, 0)),
                        kind(5, 20, 1, 1, 3), check((1, 0)), check((2, 0)), check((1, 1))]
        self.assertEqual(each_answer(*calls)[6:],
                         [[0], [0, 0, 0], [-1], [-1], [0], [-1], [0], [3, 1, 15], [-1], [-1]])

    def test_forty_checks(self):
        self.assertEqual(answers([3, 0] * 40), [3, 0, 0, 0] * 40)
        self.assertEqual(each_answer(*SHOP, *[check((2, 0), (5, 1))] * 34)[6:], [[16, 2, 6]] * 34)


if __name__ == "__main__":
    unittest.main()
