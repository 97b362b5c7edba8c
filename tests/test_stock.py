"""What a shop keeps of its kinds and staves, which its answers to promise 1 don't show."""

import unittest

from caskordersdesk.stock import Stock

KINDS = [(90, 6, 2, 5, 12), (1, 0, 1, 1, 1), (400, 60, 8, 8, 60)]
WIDTHS = [20, 1, 60, 7, 20, 59, 2]


def filled():
    stock = Stock()
    for kind in KINDS:
        stock.add_kind(*kind)
    for width in WIDTHS:
        stock.add_stave(width)
    return stock


class StockTest(unittest.TestCase):
    def test_it_keeps_what_it_was_told_in_order(self):
        stock = filled()
        self.assertEqual(stock.kinds, KINDS)
        self.assertEqual(stock.widths, WIDTHS)

    def test_a_new_one_has_nothing(self):
        filled()
        stock = Stock()
        self.assertEqual((stock.kinds, stock.widths), ([], []))

    def test_after_a_refusal_all_is_as_it_was(self):
        stock = filled()
        refused = [stock.add_kind(0, 6, 2, 5, 12), stock.add_kind(90, 6, 2, 5, 12), stock.add_kind(90, 6, 5, 2, 12),
                   stock.add_stave(0), stock.add_stave(61), stock.add_stave(20)]
        self.assertEqual(refused, [-1, -5, -1, -1, -1, -5])
        self.assertEqual(stock.kinds, KINDS)
        self.assertEqual(stock.widths, WIDTHS)

    def test_begin_leaves_no_kinds_and_no_staves(self):
        stock = filled()
        self.assertEqual(stock.begin(), 0)
        self.assertEqual((stock.kinds, stock.widths), ([], []))


if __name__ == "__main__":
    unittest.main()
