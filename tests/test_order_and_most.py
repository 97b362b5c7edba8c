"""Promise 2, order and most: the best packs that can be made, and how many are as good."""

import unittest

from caskordersdesk.shop import answers

LARGEST = 4294967295


def begins():
    return [0]


def kind(around, off, few, many, holds):
    return [1, around, off, few, many, holds]


def stave(width):
    return [2, width]


def check(*casks):
    row = [number for cask in casks for number in cask]
    return [3, len(row)] + row


def order(much):
    return [4, much]


def most():
    return [5]


def shop_of(kinds, widths):
    return [kind(*numbers) for numbers in kinds] + [stave(width) for width in widths]


def joined(calls):
    return [number for call in calls for number in call]


def each_answer(*calls):
    """Give back a list for each call: what it answers, without the count before it."""
    given = answers(joined(calls))
    split = []
    while given:
        split.append(given[1:1 + given[0]])
        given = given[1 + given[0]:]
    if len(split) != len(calls):
        raise AssertionError(f"{len(split)} answers to {len(calls)} calls")
    return split


def asked(shop, *calls):
    """Answer at most four calls of order and most on a shop."""
    return each_answer(*shop, *calls)[len(shop):]


def packs_one_by_one(kinds, widths):
    """Tell each pack, as what it holds, how many casks and its waste, by the words' plain meaning."""
    casks = []
    for staves in range(2 ** len(widths)):
        chosen = [widths[i] for i in range(len(widths)) if staves & 2 ** i]
        for around, off, few, many, holds in kinds:
            if few <= len(chosen) <= many and 0 <= sum(chosen) - around <= off:
                casks.append((staves, holds, sum(chosen) - around))
    packs = []

    def take(left, pack):
        packs.append(pack)
        for place, (staves, holds, waste) in enumerate(left):
            apart = [cask for cask in left[place + 1:] if not cask[0] & staves]
            take(apart, (pack[0] + holds, pack[1] + 1, pack[2] + waste))

    take(casks, (0, 0, 0))
    return packs


def due_of_order(packs, much):
    if not 1 <= much <= 1000:
        return [-1]
    ranked = sorted((holds - much, casks, waste) for holds, casks, waste in packs if holds >= much)
    return [*ranked[0], ranked.count(ranked[0])] if ranked else [-6]


def due_of_most(packs):
    ranked = sorted((-holds, casks, waste) for holds, casks, waste in packs)
    return [-ranked[0][0], *ranked[0][1:], ranked.count(ranked[0])]


def drawn(count):
    """Shops of up to 5 staves and 3 kinds, drawn by a fixed rule, the same at each run."""
    state = 7

    def below(limit):
        nonlocal state
        state = (state * 1103515245 + 12345) % 2 ** 31
        return (state >> 8) % limit

    shops = []
    for each in range(count):
        widths = [1 + below((60, 12, 4)[each % 3]) for place in range(below(6))]
        kinds = []
        for place in range(below(4)):
            few = 1 + below(3)
            kinds.append((1 + below((90, 25, 9)[each % 3]), below(61), few, few + below(9 - few), 1 + below(60)))
        shops.append((kinds, widths))
    return shops


class OrderTest(unittest.TestCase):
    def test_how_much_can_be_ordered(self):
        shop = shop_of([(20, 0, 1, 1, 60)], [20])
        self.assertEqual(asked(shop, order(0), order(1), order(60), order(61)),
                         [[-1], [59, 1, 0, 1], [0, 1, 0, 1], [-6]])
        self.assertEqual(asked(shop, order(999), order(1000), order(1001), order(LARGEST)),
                         [[-6], [-6], [-1], [-1]])

    def test_in_a_shop_with_nothing(self):
        self.assertEqual(asked([], order(0), order(1), order(1000), order(1001)), [[-1], [-6], [-6], [-1]])

    def test_a_refusal_stands_alone(self):
        self.assertEqual(answers([4, 0, 4, 1, 4, 1001]), [1, -1, 1, -6, 1, -1])

    def test_no_pack_holds_so_much(self):
        shop = shop_of([(20, 0, 2, 2, 5)], [10] * 5)
        self.assertEqual(asked(shop, order(10), order(11)), [[0, 2, 0, 15], [-6]])
        self.assertEqual(asked(shop_of([(20, 0, 2, 2, 5)], []), order(1)), [[-6]])
        self.assertEqual(asked(shop_of([], [10] * 5), order(1)), [[-6]])
        self.assertEqual(asked(shop_of([(20, 0, 2, 2, 5)], [10, 11]), order(1)), [[-6]])

    def test_no_room_left_and_some(self):
        shop = shop_of([(10, 0, 1, 1, 7), (11, 0, 1, 1, 10)], [10, 10, 11])
        self.assertEqual(asked(shop, order(7), order(8), order(10), order(11)),
                         [[0, 1, 0, 2], [2, 1, 0, 1], [0, 1, 0, 1], [3, 2, 0, 1]])
        self.assertEqual(asked(shop, order(14), order(15), order(24), order(25)),
                         [[0, 2, 0, 1], [2, 2, 0, 2], [0, 3, 0, 1], [-6]])

    def test_least_room_ahead_of_fewest_casks(self):
        shop = shop_of([(10, 0, 1, 1, 6), (9, 6, 1, 1, 13)], [10, 10, 15])
        self.assertEqual(asked(shop, order(12), order(13)), [[0, 2, 0, 1], [0, 1, 1, 2]])

    def test_least_room_ahead_of_least_waste(self):
        shop = shop_of([(10, 0, 1, 1, 6), (11, 40, 1, 1, 5)], [10, 50])
        self.assertEqual(asked(shop, order(5), order(6)), [[0, 1, 39, 1], [0, 1, 0, 1]])

    def test_fewest_casks_ahead_of_least_waste(self):
        shop = shop_of([(10, 0, 1, 1, 6), (9, 6, 1, 1, 12)], [10, 10, 15])
        self.assertEqual(asked(shop, order(12), order(6), order(24)), [[0, 1, 1, 2], [0, 1, 0, 2], [0, 2, 2, 1]])
        shop = shop_of([(10, 0, 1, 1, 6), (15, 60, 3, 3, 12)], [10, 10, 10, 10])
        self.assertEqual(asked(shop, order(12)), [[0, 1, 15, 4]])

    def test_least_waste_last(self):
        shop = shop_of([(10, 20, 1, 2, 6)], [12, 11, 17, 11])
        self.assertEqual(asked(shop, order(1), order(7), order(13), order(24)),
                         [[5, 1, 1, 2], [5, 2, 2, 1], [5, 3, 4, 1], [0, 4, 11, 1]])

    def test_staves_that_are_alike_are_different_staves(self):
        shop = shop_of([(20, 0, 2, 2, 5)], [10, 10, 10, 10, 10, 10, 10])
        self.assertEqual(asked(shop, order(5), order(10), order(15), order(16)),
                         [[0, 1, 0, 21], [0, 2, 0, 105], [0, 3, 0, 105], [-6]])

    def test_kinds_that_are_alike_are_different_kinds(self):
        shop = shop_of([(10, 0, 1, 1, 6)] * 3, [10, 10])
        self.assertEqual(asked(shop, order(6), order(12), order(7), order(1)),
                         [[0, 1, 0, 6], [0, 2, 0, 9], [5, 2, 0, 9], [5, 1, 0, 6]])

    def test_unlike_packs_may_be_as_good(self):
        shop = shop_of([(10, 5, 1, 1, 6), (8, 5, 1, 1, 6), (20, 9, 2, 2, 6)], [12, 10, 13])
        self.assertEqual(asked(shop, order(6), order(12)), [[0, 1, 0, 1], [0, 2, 2, 1]])
        shop = shop_of([(10, 5, 1, 1, 6), (20, 0, 2, 2, 6)], [10, 10, 15])
        self.assertEqual(asked(shop, order(6)), [[0, 1, 0, 3]])

    def test_a_pack_may_leave_staves(self):
        shop = shop_of([(10, 0, 1, 1, 6)], [10] * 7)
        self.assertEqual(asked(shop, order(18), order(19)), [[0, 3, 0, 35], [5, 4, 0, 35]])


class MostTest(unittest.TestCase):
    def test_no_cask_can_be_made(self):
        for name, kinds, widths in (
            ("nothing", [], []),
            ("no staves", [(1, 60, 1, 8, 60)] * 3, []),
            ("no kinds", [], [20] * 7),
            ("too narrow", [(400, 60, 1, 8, 60)], [57] * 7),
            ("too wide", [(1, 5, 1, 8, 60)], [7, 8]),
            ("too few", [(8, 60, 8, 8, 60)], [1] * 7),
            ("too many", [(30, 60, 1, 2, 60)], [9] * 7),
        ):
            with self.subTest(name):
                self.assertEqual(asked(shop_of(kinds, widths), most(), order(1)), [[0, 0, 0, 1], [-6]])

    def test_one_cask(self):
        self.assertEqual(asked(shop_of([(20, 5, 1, 1, 7)], [24]), most()), [[7, 1, 4, 1]])
        self.assertEqual(asked(shop_of([(400, 60, 7, 7, 60)], [60] * 7), most()), [[60, 1, 20, 1]])

    def test_what_it_holds_ahead_of_fewest_casks_and_least_waste(self):
        shop = shop_of([(20, 0, 2, 2, 11), (10, 0, 1, 1, 6)], [10, 10])
        self.assertEqual(asked(shop, most()), [[12, 2, 0, 1]])
        shop = shop_of([(10, 0, 1, 1, 6), (5, 9, 1, 1, 7)], [10])
        self.assertEqual(asked(shop, most()), [[7, 1, 5, 1]])

    def test_fewest_casks_ahead_of_least_waste(self):
        shop = shop_of([(10, 0, 1, 1, 6), (12, 60, 2, 2, 12)], [10, 10])
        self.assertEqual(asked(shop, most()), [[12, 1, 8, 1]])

    def test_least_waste_last(self):
        shop = shop_of([(20, 9, 2, 2, 12)], [10, 11, 12])
        self.assertEqual(asked(shop, most()), [[12, 1, 1, 1]])

    def test_how_many_are_as_good(self):
        self.assertEqual(asked(shop_of([(20, 0, 2, 2, 5)], [10] * 4), most()), [[10, 2, 0, 3]])
        self.assertEqual(asked(shop_of([(20, 0, 2, 2, 5)], [10] * 5), most()), [[10, 2, 0, 15]])
        self.assertEqual(asked(shop_of([(20, 0, 2, 2, 5)] * 2, [10] * 4), most()), [[10, 2, 0, 12]])
        self.assertEqual(asked(shop_of([(10, 5, 1, 1, 5)], [12, 12, 15]), most()), [[15, 3, 9, 1]])

    def test_more_casks_may_hold_less(self):
        shop = shop_of([(10, 0, 1, 1, 1), (30, 0, 3, 3, 50)], [10] * 4)
        self.assertEqual(asked(shop, most(), order(4)), [[51, 2, 0, 4], [0, 4, 0, 1]])


class LargestShopTest(unittest.TestCase):
    def test_three_kinds_that_are_alike(self):
        # each set but 0 goes round: 8 to 56 wide, 1 to 61 asked
        shop = shop_of([(1, 60, 1, 8, 10)] * 3, [8] * 7)
        self.assertEqual(asked(shop, most(), order(70), order(71), order(61)),
                         [[70, 7, 49, 3 ** 7], [0, 7, 49, 3 ** 7], [-6], [9, 7, 49, 3 ** 7]])
        self.assertEqual(asked(shop, order(1), order(11), order(31), order(40)),
                         [[9, 1, 7, 21], [9, 2, 14, 21 * 9], [9, 4, 28, 35 * 81], [0, 4, 28, 35 * 81]])

    def test_three_kinds_that_hold_unlike_much(self):
        shop = shop_of([(1, 60, 1, 8, 1), (2, 60, 1, 8, 20), (3, 60, 1, 8, 60)], [8] * 7)
        self.assertEqual(asked(shop, most(), order(420), order(381), order(7)),
                         [[420, 7, 35, 1], [0, 7, 35, 1], [39, 7, 35, 1], [0, 7, 49, 1]])
        self.assertEqual(asked(shop, order(141), order(60), order(23), order(62)),
                         [[0, 4, 23, 35 * 12], [0, 1, 5, 7], [0, 4, 27, 35 * 4], [0, 3, 19, 35 * 3]])

    def test_nearly_every_set_goes_round(self):
        # set 127, 70 wide, goes round for kind 2 alone; sets of one stave don't for kind 1
        shop = shop_of([(1, 60, 1, 7, 3), (2, 60, 2, 8, 5), (10, 60, 1, 7, 4)], [10] * 7)
        self.assertEqual(asked(shop, most(), order(28), order(27), order(29)),
                         [[28, 7, 0, 1], [0, 7, 0, 1], [0, 7, 9, 7], [-6]])
        self.assertEqual(asked(shop, order(15), order(19), order(20), order(16)),
                         [[0, 3, 54, 105], [0, 4, 54, 7 * 15], [0, 5, 0, 21], [0, 4, 0, 35]])

    def test_staves_that_are_unlike(self):
        shop = shop_of([(1, 60, 1, 8, 60), (2, 60, 1, 8, 59), (5, 60, 1, 8, 7)], [5, 6, 7, 8, 9, 10, 11])
        self.assertEqual(asked(shop, order(1), order(14), order(120), most()),
                         [[6, 1, 0, 1], [0, 2, 1, 1], [0, 2, 9, 1], [420, 7, 49, 1]])

    def test_four_calls_against_the_packs_one_by_one(self):
        kinds = [(1, 60, 1, 8, 9), (3, 60, 1, 7, 16), (5, 60, 1, 8, 25)]
        widths = [5, 11, 6, 8, 8, 7, 5]
        packs = packs_one_by_one(kinds, widths)
        # each set but 0 goes round for each kind: no shop has more packs
        self.assertEqual(len(packs), 227290)
        self.assertEqual(asked(shop_of(kinds, widths), order(50), order(83), order(150), most()),
                         [due_of_order(packs, 50), due_of_order(packs, 83), due_of_order(packs, 150),
                          due_of_most(packs)])


class DrawnTest(unittest.TestCase):
    def test_against_the_packs_one_by_one(self):
        for kinds, widths in drawn(150):
            packs = packs_one_by_one(kinds, widths)
            top = due_of_most(packs)[0]
            amounts = (1, max(1, top // 3), max(1, 2 * top // 3))
            with self.subTest(kinds=kinds, widths=widths):
                self.assertEqual(asked(shop_of(kinds, widths), most(), *[order(much) for much in amounts]),
                                 [due_of_most(packs)] + [due_of_order(packs, much) for much in amounts])
                self.assertEqual(asked(shop_of(kinds, widths), order(top), order(top + 1)),
                                 [due_of_order(packs, top), [-6]])


class ShopTest(unittest.TestCase):
    def test_the_shop_stays_as_it_was(self):
        shop = shop_of([(20, 5, 1, 2, 7), (10, 9, 1, 1, 4)], [12, 10, 15])
        calls = [most(), order(8), check((3, 0)), most(), order(8), check((3, 0))]
        due = [[12, 3, 7, 1], [0, 2, 2, 1], [7, 1, 2]]
        self.assertEqual(each_answer(*shop, *calls, stave(20), kind(1, 0, 1, 1, 1), kind(1, 0, 1, 1, 1))[5:],
                         due + due + [[3], [2], [-5]])

    def test_a_refusal_leaves_the_shop_as_it_was(self):
        shop = shop_of([(20, 5, 1, 2, 7)], [12, 10])
        calls = [order(0), order(8), order(1001), check((4, 0)), check((0, 0)), stave(0), kind(0, 0, 0, 0, 0), order(7),
                 stave(20)]
        self.assertEqual(asked(shop, *calls), [[-1], [-6], [-1], [-1], [-6, 0], [-1], [-1], [0, 1, 2, 1], [2]])

    def test_what_comes_later_is_seen(self):
        calls = [most(), stave(10), most(), kind(10, 0, 1, 1, 5), most(), stave(10), kind(10, 0, 1, 1, 6), most()]
        self.assertEqual(each_answer(*calls),
                         [[0, 0, 0, 1], [0], [0, 0, 0, 1], [0], [5, 1, 0, 1], [1], [1], [12, 2, 0, 1]])

    def test_begins_leaves_nothing(self):
        shop = shop_of([(10, 0, 1, 1, 5)] * 3, [10] * 7)
        calls = [most(), begins(), most(), order(1), stave(10), kind(10, 0, 1, 1, 3), check((1, 0)), most()]
        self.assertEqual(asked(shop, *calls),
                         [[35, 7, 0, 2187], [0], [0, 0, 0, 1], [-6], [0], [0], [3, 1, 0], [3, 1, 0, 1]])

    def test_what_is_handed_in_stays_as_it_was(self):
        calls = joined(shop_of([(20, 5, 1, 2, 7)], [12, 10]) + [check((3, 0)), order(7), most(), check((0, 0))])
        before = list(calls)
        first = answers(calls)
        self.assertEqual(calls, before)
        self.assertEqual(answers(calls), first)
        self.assertEqual({type(number) for number in first}, {int})


if __name__ == "__main__":
    unittest.main()
