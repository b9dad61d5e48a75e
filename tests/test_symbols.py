import itertools
import unittest

from lastproof.terms.symbols import TRUTH, answer, comes_before, function, part_name, predicate, skolem

BIG = 10 ** 40


class SymbolsTest(unittest.TestCase):
    def test_truth(self):
        self.assertEqual(TRUTH, ((0, 0, 0), ()))
        self.assertIs(type(TRUTH), tuple)

    def test_each_kind(self):
        for n in (0, 1, 7, BIG):
            self.assertEqual(predicate(n), (1, n, 0))
            self.assertEqual(function(n), (2, n, 0))
            self.assertEqual(answer(n), (5, n, 0))
            for k in (0, 2, BIG):
                self.assertEqual(skolem(n, k), (3, n, k))
                self.assertEqual(part_name(n, k), (4, n, k))

    def test_the_order_goes_by_kind_then_a_then_k(self):
        ascending = [
            TRUTH[0], predicate(0), predicate(1), predicate(BIG), function(0), function(9), function(10),
            skolem(0, 0), skolem(0, 1), skolem(0, BIG), skolem(1, 0), part_name(0, 5), part_name(1, 2),
            part_name(1, 10), part_name(2, 0), answer(0), answer(1), answer(BIG),
        ]
        for first, second in itertools.product(range(len(ascending)), repeat=2):
            expected = first < second
            told = comes_before(ascending[first], ascending[second])
            self.assertIs(told, expected, (ascending[first], ascending[second]))

    def test_a_symbol_does_not_come_before_itself(self):
        for symbol in [TRUTH[0], predicate(3), function(3), skolem(3, 4), part_name(3, 4), answer(3)]:
            self.assertIs(comes_before(symbol, symbol), False)

    def test_truth_comes_before_all_others(self):
        for symbol in [predicate(0), function(0), skolem(0, 0), part_name(0, 0), answer(0)]:
            self.assertIs(comes_before(TRUTH[0], symbol), True)
            self.assertIs(comes_before(symbol, TRUTH[0]), False)
