"""What holds numbers, roots and angles between fractions ([42]): at few bits each rounding is seen."""

import random
import unittest
from decimal import localcontext
from fractions import Fraction
from math import atan, atan2, pi

from planehall.held import (
    hold, hold_angle, hold_distance, hold_root, hold_rounds, hold_slope, hold_sum, narrowed, opposite, product_of, root_of_pair, share_of, square_of,
    sum_of,
)
from planehall.roots import is_number, plus, times
from planehall.surds import quotient
from tests.helpers import DIGITS, ROOT_THREE, ROOT_TWO, Told, decimal, fraction, pair, point

FLOAT = 1e-12
NUMBERS = (ROOT_TWO, ROOT_THREE, (1, 0, -2, False), (3, 5, -7, True), (3, 5, -7, False), (1, -2, -1, False), (5, -1, -100, True))


def exact(number):
    with localcontext() as context:
        context.prec = DIGITS
        return Fraction(decimal(number))


class Quotients(Told, unittest.TestCase):
    def test_quotients(self):
        chance = random.Random(190)
        for root in (ROOT_TWO, (2, 0, -1, False), (3, 0, -7, True)):
            numbers = [plus(pair(Fraction(chance.randint(-9, 9), chance.randint(1, 9))), times(root, pair(Fraction(chance.randint(-9, 9), chance.randint(1, 9))))) for _ in range(30)]
            for number in numbers:
                for other in numbers:
                    if other != (0, 1):
                        found = quotient(number, other)
                        self.assertTrue(is_number(found))
                        self.assert_plain(times(found, other), number)
        self.assert_plain([quotient((1, 2), (-3, 4)), quotient((0, 1), ROOT_TWO), quotient(ROOT_TWO, ROOT_TWO), quotient((1, 1), (1, 0, -2, False))], [(-2, 3), (0, 1), (1, 1), (2, 0, -1, False)])


class Holding(Told, unittest.TestCase):
    def assert_held(self, found, bits, meant, wide, slack=0):
        low, high = found
        self.assertLessEqual(low, meant * 2 ** bits + slack * 2 ** bits)
        self.assertGreaterEqual(high, meant * 2 ** bits - slack * 2 ** bits)
        self.assertLessEqual(high - low, wide)
        self.assertLessEqual(low, high)

    def test_numbers(self):
        chance = random.Random(191)
        numbers = NUMBERS + tuple(pair(Fraction(chance.randint(-99, 99), chance.randint(1, 40))) for _ in range(100))
        for number in numbers:
            for bits in (0, 1, 2, 3, 7, 20):
                self.assert_held(hold(number, bits), bits, exact(number), 1)
                if len(number) == 2 and 2 ** bits % number[1] == 0:
                    low, high = hold(number, bits)
                    self.assertEqual((low, high), (number[0] * 2 ** bits // number[1],) * 2)
        self.assert_plain([hold((3, 1), 0), hold((7, 2), 1), hold((7, 2), 0), hold((-7, 2), 0), hold(ROOT_TWO, 0)], [(3, 3), (7, 7), (3, 4), (-4, -3), (1, 2)])

    def test_roots(self):
        for top in range(60):
            for bottom in (1, 2, 3, 7, 9):
                for bits in (0, 1, 3, 8):
                    meant = Fraction(top, bottom)
                    low, high = hold_root(pair(meant), bits)
                    self.assertLessEqual(Fraction(low, 2 ** bits) ** 2, meant)
                    self.assertGreaterEqual(Fraction(high, 2 ** bits) ** 2, meant)
                    self.assertLessEqual(high - low, 1 + (meant == 0))
        self.assert_plain([hold_root((4, 1), 0), hold_root((9, 4), 1), hold_root((2, 1), 0), hold_root((0, 1), 5), root_of_pair((4, 9)), root_of_pair((5, 10)), root_of_pair((0, 0))], [(2, 2), (3, 3), (1, 2), (0, 0), (2, 3), (2, 4), (0, 0)])

    def test_sums_and_products(self):
        self.assert_plain([sum_of([]), sum_of([(1, 2), (-5, -3)]), opposite((2, 5)), opposite((-2, 5)), opposite((-7, -7))], [(0, 0), (-4, -1), (-5, -2), (-5, 2), (7, 7)])
        self.assert_plain([square_of((2, 3)), square_of((-3, -2)), square_of((-2, 3)), square_of((-3, 2)), square_of((0, 3)), square_of((-3, 0)), square_of((-1, 1))], [(4, 9), (4, 9), (0, 9), (0, 9), (0, 9), (0, 9), (0, 1)])
        self.assert_plain([product_of((3, 4), (5, 7), 0), product_of((3, 5), (5, 7), 2), product_of((4, 4), (4, 4), 2), product_of((0, 1), (0, 1), 3)], [(15, 28), (3, 9), (4, 4), (0, 1)])
        self.assert_plain([share_of((3, 4), (1, 2)), share_of((3, 4), (-1, 2)), share_of((-3, 5), (2, 3)), share_of((-3, 5), (-2, 3)), share_of((3, 4), (0, 1)), share_of((6, 6), (5, 3))], [(1, 2), (-2, -1), (-2, 4), (-4, 2), (0, 0), (10, 10)])

    def test_distances(self):
        chance = random.Random(192)
        places = [(ROOT_TWO, (2, 0, -1, True)), (ROOT_THREE, (1, 1)), ((1, 2), (4, 0, -3, True)), ((4, 0, -3, False), (1, 2))]
        places += [point(Fraction(chance.randint(-9, 9), 4), chance.randint(-9, 9)) for _ in range(12)]
        for first in places:
            for second in places:
                meant = sum((exact(part) - exact(other)) ** 2 for part, other in zip(first, second))
                for bits in (1, 4, 12):
                    low, high = hold_distance(first, second, bits)
                    self.assertLessEqual(Fraction(low, 2 ** bits) ** 2, meant)
                    self.assertGreaterEqual(Fraction(high, 2 ** bits) ** 2, meant)
                    self.assertLessEqual(high - low, 6)

    def test_sums_of_powers(self):
        for bits in (3, 4, 6, 9, 14):
            for part in range(0, 2 ** (bits - 1) + 1, 1 if bits < 10 else 97):
                self.assert_held(hold_sum(part, bits), bits, atan(part / 2 ** bits), 3 * bits + 10, FLOAT)

    def test_slopes(self):
        chance = random.Random(193)
        slopes = [pair(Fraction(top, bottom)) for bottom in (1, 2, 3, 5, 16, 97) for top in range(bottom + 1)] + [(2, 0, -1, True), (4, 0, -3, True), (1, 2, -1, True), (1, 10 ** 9)]
        for slope in slopes:
            for bits in (3, 5, 9, 14, chance.randint(3, 30)):
                self.assert_held(hold_slope(slope, bits), bits, atan(float(decimal(slope))), 12 * bits + 40, FLOAT)

    def test_rounds(self):
        for quarters in range(5):
            for bits in (4, 9, 30):
                self.assert_held(hold_rounds(quarters, bits), bits, quarters * pi / 2, quarters * (24 * bits + 80), FLOAT)
        self.assertEqual(hold_rounds(0, 9), (0, 0))

    def test_angles(self):
        chance = random.Random(194)
        ways = [point(x, y) for x in range(-3, 4) for y in range(-3, 4) if x or y]
        ways += [(ROOT_TWO, (1, 0, -2, False)), ((1, 0, -2, False), (2, 0, -1, True)), ((0, 1), ROOT_TWO), ((1, 0, -3, False), (1, 1)), ((1, 1), (1, 0, -3, False)), ((1, 0, -3, False), (0, 1))]
        ways += [point(chance.randint(-99, 99), chance.randint(1, 9)) for _ in range(50)] + [point(10 ** 6, -1), point(10 ** 6, 1), point(-10 ** 6, 1), point(-10 ** 6, -1)]
        for x, y in ways:
            meant = atan2(float(decimal(y)), float(decimal(x))) % (2 * pi)
            for bits in (4, 8, 16, 30):
                found = hold_angle((x, y), bits)
                self.assert_held(found, bits, meant, 100 * bits + 400, FLOAT)
                self.assertGreaterEqual(found[0], 0)

    def test_narrowed(self):
        asked = []

        def third(bits):
            asked.append(bits)
            return ((1 << bits) // 3 - 1000, (1 << bits) // 3 + 1000)
        for many in (1, 1000, 10 ** 6, 10 ** 40):
            asked.clear()
            low, high = map(fraction, narrowed(third, many))
            self.assertTrue(low <= Fraction(1, 3) <= high)
            self.assertLessEqual(high - low, Fraction(1, many))
            self.assertEqual(asked, sorted(set(asked)))
        self.assert_plain(narrowed(lambda bits: (3 << bits, 3 << bits), 10), ((3, 1), (3, 1)))
        # Just as near as wished is near enough.
        self.assert_plain(narrowed(lambda bits: (0, (1 << bits) // 16 if bits == asked[0] else 0), 16), ((0, 1), (1, 16)))


if __name__ == "__main__":
    unittest.main()
