"""Fractions and numbers: one form, order, sums and products, what lies near and between ([6], [7])."""

import random
import unittest
from decimal import Decimal, localcontext
from fractions import Fraction
from math import gcd, isqrt

from planehall.roots import between, is_number, less, lie_in_one, near, order, plus, root_of, times
from tests.helpers import (
    DIGITS, HALF, MINUS, NIL, ONE, ROOT_THREE, ROOT_TWO, TWO, Told, decimal, fraction, is_near, kind_of, pair,
)

BIG = 10 ** 300


def number(a, b, r):
    """The one form of a + b root(r), found here by itself: r a fraction above 0 that is no square, b not 0."""
    a, b, r = Fraction(a), Fraction(b), Fraction(r)
    parts = (Fraction(1), -2 * a, a * a - b * b * r)
    shared = 1
    for part in parts:
        shared = shared * part.denominator // gcd(shared, part.denominator)
    wholes = [int(part * shared) for part in parts]
    divisor = gcd(*wholes)
    return (wholes[0] // divisor, wholes[1] // divisor, wholes[2] // divisor, b > 0)


def some_fraction(chance, size=12):
    return Fraction(chance.randint(-size, size), chance.randint(1, size))


def some_root(chance, r, size=12):
    a, b = some_fraction(chance, size), some_fraction(chance, size) or Fraction(1)
    return a, b, number(a, b, r)


class Form(Told, unittest.TestCase):
    def test_roots_of_either_sign(self):
        self.assertEqual(number(0, 1, 2), ROOT_TWO)
        for value in (ROOT_TWO, (1, 0, -2, False), (2, 0, -1, True), (1, -2, -1, False), (5, 3, -1, True), (7, 12, 4, False)):
            self.assertIs(is_number(value), True)
            self.assertIs(is_number(value[:3] + (not value[3],)), True)

    def test_forms_that_are_no_numbers(self):
        for value in (
            (1, 0, -4, True), (1, 0, 4, True), (1, 0, 0, True), (2, 0, -4, True), (-1, 0, 2, True), (0, 1, 1, False),
            (1, 2, 1, False), (1, 1, 1, True), (4, 0, -9, True), (1, -5, 6, True), (3, 3, -3, False), (-3, 2, 5, True),
        ):
            self.assertIs(is_number(value), False, value)

    def test_forms_with_hundreds_of_digits(self):
        for n in (BIG, BIG + 1, 3 * BIG + 7):
            self.assertIs(is_number((1, 0, -n * n, True)), False)
            self.assertIs(is_number((1, 0, -n * n - 1, True)), True)
            self.assertIs(is_number((1, 0, 1 - n * n, False)), True)
            self.assertIs(is_number((n, 0, -2 * n, True)), False)
            self.assertIs(is_number((n, n + 1)), True)
            self.assertIs(is_number((2 * n, 2 * n + 2)), False)
            self.assertIs(is_number((n, 2 * n, n, True)), False)

    def test_what_is_returned_is_in_its_form(self):
        chance = random.Random(3)
        for _ in range(300):
            r = chance.choice((2, 3, 5, 6, 8, 12, Fraction(1, 2), Fraction(3, 8), Fraction(50, 9)))
            a, b, value = some_root(chance, r)
            made = plus(pair(a), times(pair(b), root_of(pair(r))))
            self.assert_plain(made, value)
            self.assertIs(is_number(made), True)
            self.assert_plain(plus(times(root_of(pair(r * b * b)), ONE if b > 0 else MINUS), pair(a)), value)


class RootOf(Told, unittest.TestCase):
    def test_squares_of_fractions(self):
        for value in (NIL, ONE, HALF, TWO, (7, 3), (1, 1000), (BIG, 1), (BIG, BIG + 1)):
            square = pair(fraction(value) ** 2)
            self.assert_plain(root_of(square), value)
            self.assert_plain(times(value, value), square)

    def test_others(self):
        for value, wanted in (
            (TWO, ROOT_TWO), (HALF, (2, 0, -1, True)), ((8, 1), (1, 0, -8, True)), ((2, 9), (9, 0, -2, True)),
            ((12, 25), (25, 0, -12, True)), ((1, 12), (12, 0, -1, True)), ((BIG * BIG + 1, 1), (1, 0, -BIG * BIG - 1, True)),
        ):
            self.assert_plain(root_of(value), wanted)
            self.assert_plain(times(wanted, wanted), value)
            self.assertEqual(order(wanted, NIL), 1)


class Order(Told, unittest.TestCase):
    def is_order(self, low, high, side):
        self.assert_plain(order(low, high), side)
        self.assert_plain(order(high, low), -side)
        self.assert_plain([order(low, low), order(high, high)], [0, 0])

    def test_fractions(self):
        for low, high in ((NIL, ONE), (MINUS, NIL), ((1, 3), HALF), ((-1, 2), (-1, 3)), ((-7, 2), (7, 3)), ((BIG, BIG + 1), ONE)):
            self.is_order(low, high, -1)

    def test_roots_of_either_sign(self):
        below, above = (1, 0, -2, False), ROOT_TWO
        for low, high in (
            (below, above), (below, NIL), (NIL, above), (above, (3, 2)), ((7, 5), above), ((-3, 2), below), (below, (-7, 5)),
            (above, ROOT_THREE), ((1, 0, -3, False), below), ((1, -2, -1, False), NIL), ((1, 2, -1, False), (1, 2, -1, True)),
            ((1, -4, 2, False), (1, -4, 2, True)), (NIL, (1, -4, 2, False)), ((1, 4, 2, True), NIL),
        ):
            self.is_order(low, high, -1)

    def test_numbers_that_come_alike_by_two_ways(self):
        for first, second in (
            (plus(ONE, ROOT_TWO), (1, -2, -1, True)), (times(TWO, ROOT_TWO), root_of((8, 1))), (root_of((9, 4)), (3, 2)),
            (times(plus(ONE, ROOT_TWO), plus(ONE, ROOT_TWO)), plus((3, 1), root_of((8, 1)))),
        ):
            self.assert_plain(first, second)
            self.is_order(first, second, 0)

    def test_all_pairs_of_many(self):
        values = [(k, m) for m in (1, 2, 3) for k in range(-4, 5) if gcd(k, m) == 1]
        values += [
            (p, q, s, upper) for p in (1, 2, 3) for q in range(-3, 4) for s in range(-3, 4) for upper in (False, True)
            if is_number((p, q, s, upper))]
        tens = [decimal(value) for value in values]
        for value, ten in zip(values, tens):
            for other, second in zip(values, tens):
                wanted = 0 if value == other else -1 if ten < second else 1
                self.assertEqual(order(value, other), wanted, (value, other))

    def test_very_close_to_a_root(self):
        for r in (2, 3, BIG + 1):
            for many in (1, 10, 10 ** 50, 10 ** 399, 10 ** 1200):
                low = isqrt(r * many * many)
                self.is_order(pair(Fraction(low, many)), root_of((r, 1)), -1)
                self.is_order(root_of((r, 1)), pair(Fraction(low + 1, many)), -1)
                self.is_order(pair(Fraction(-low - 1, many)), (1, 0, -r, False), -1)
                self.is_order((1, 0, -r, False), pair(Fraction(-low, many)), -1)

    def test_very_close_in_two_fields(self):
        # c is root 2 less root 3 to so many digits: c + root 3 is just below or above root 2.
        for digits in (1, 5, 40, 390):
            many = 10 ** digits
            gap = isqrt(2 * many * many) - isqrt(3 * many * many)
            self.is_order(plus(pair(Fraction(gap - 1, many)), ROOT_THREE), ROOT_TWO, -1)
            self.is_order(ROOT_TWO, plus(pair(Fraction(gap + 1, many)), ROOT_THREE), -1)
            self.is_order((1, 0, -2, False), plus(pair(Fraction(1 - gap, many)), (1, 0, -3, False)), -1)
            self.is_order(plus(pair(Fraction(-1 - gap, many)), (1, 0, -3, False)), (1, 0, -2, False), -1)

    def test_neighbouring_roots_of_hundreds_of_digits(self):
        for n in (BIG, BIG + 1, 7 * BIG + 3, BIG * BIG + 1):
            roots = [root_of((n + k, 1)) for k in range(1, 5)]
            for low, high in zip(roots, roots[1:]):
                self.is_order(low, high, -1)
            self.is_order(root_of((n, n + 1)), ONE, -1)
            self.is_order(root_of((n + 1, n)), root_of((n + 2, n + 1)), 1)
        self.is_order((BIG, -1, -1, True), (BIG, -1, -2, True), -1)
        self.is_order((BIG, 1, -2, False), (BIG, 1, -1, False), -1)


class Fields(Told, unittest.TestCase):
    def test_lie_in_one(self):
        for number_, other, wanted in (
            (NIL, HALF, True), (NIL, ROOT_TWO, True), (ROOT_TWO, (5, 7), True), (ROOT_TWO, ROOT_TWO, True),
            (ROOT_TWO, (1, 0, -2, False), True), (ROOT_TWO, (1, 0, -8, True), True), (ROOT_TWO, (2, 0, -1, True), True),
            (ROOT_TWO, (1, -2, -1, False), True), (ROOT_TWO, ROOT_THREE, False), (ROOT_TWO, (1, 0, -6, True), False),
            ((1, 0, -6, True), (2, 0, -3, True), True), ((1, 1, -1, True), (1, 0, -5, False), True),
            ((1, 1, -1, True), (1, 1, -3, True), False), ((1, 0, -3 * BIG * BIG, True), ROOT_THREE, True),
            ((1, 0, -3 * BIG, True), ROOT_THREE, True), ((1, 0, -30 * BIG, True), ROOT_THREE, False),
        ):
            self.assertIs(lie_in_one(number_, other), wanted, (number_, other))
            self.assertIs(lie_in_one(other, number_), wanted)

    def test_sums_and_products_of_many(self):
        chance = random.Random(11)
        for _ in range(400):
            r = chance.choice((2, 3, 5, 7, 12, Fraction(2, 3)))
            side = Fraction(chance.randint(1, 4), chance.randint(1, 4))
            a, b, first = some_root(chance, r)
            # The second root is told by another multiple of r: both lie in one field all the same.
            c, d, second = some_root(chance, r * side * side)
            d = d * side
            for name, got, (x, y) in (
                ("plus", plus(first, second), (a + c, b + d)), ("less", less(first, second), (a - c, b - d)),
                ("times", times(first, second), (a * c + b * d * r, a * d + b * c)),
            ):
                self.assert_plain(got, pair(x) if y == 0 else number(x, y, r))
            self.assert_plain(plus(second, first), plus(first, second))
            self.assert_plain(times(second, first), times(first, second))
            self.assert_plain(plus(less(first, second), second), first)

    def test_with_fractions(self):
        chance = random.Random(12)
        for _ in range(200):
            a, b, root = some_root(chance, 3)
            c = some_fraction(chance)
            self.assert_plain(plus(root, pair(c)), number(a + c, b, 3))
            self.assert_plain(plus(pair(c), root), number(a + c, b, 3))
            self.assert_plain(less(root, pair(c)), number(a - c, b, 3))
            self.assert_plain(less(pair(c), root), number(c - a, -b, 3))
            product = number(a * c, b * c, 3) if c else NIL
            self.assert_plain(times(root, pair(c)), product)
            self.assert_plain(times(pair(c), root), product)
            d = some_fraction(chance)
            self.assert_plain(plus(pair(c), pair(d)), pair(c + d))
            self.assert_plain(less(pair(c), pair(d)), pair(c - d))
            self.assert_plain(times(pair(c), pair(d)), pair(c * d))

    def test_what_comes_out_as_a_fraction(self):
        gold, back = (1, -1, -1, True), (1, -1, -1, False)
        for got, wanted in (
            (plus(gold, back), ONE), (times(gold, back), MINUS), (less(ROOT_TWO, ROOT_TWO), NIL), (times(ROOT_TWO, ROOT_TWO), TWO),
            (times(ROOT_TWO, (2, 0, -1, True)), ONE), (times(ROOT_TWO, NIL), NIL), (times(NIL, gold), NIL),
            (plus(ROOT_TWO, (1, 0, -2, False)), NIL), (less(gold, (1, 1, -1, True)), ONE),
            (times((1, 0, -8, True), (1, 0, -2, False)), (-4, 1)),
        ):
            self.assert_plain(got, wanted)

    def test_hundreds_of_digits(self):
        n = BIG * BIG + 1
        a, b = Fraction(BIG + 7, BIG - 1), Fraction(3, BIG + 9)
        first, second = number(a, b, n), number(b, a, n)
        self.assert_plain(plus(pair(a), times(pair(b), root_of((n, 1)))), first)
        self.assert_plain(plus(first, second), number(a + b, a + b, n))
        self.assert_plain(less(first, second), number(a - b, b - a, n))
        self.assert_plain(times(first, second), number(a * b + a * b * n, a * a + b * b, n))
        self.assert_plain(less(first, first), NIL)
        # What is returned may be passed on, however long it is.
        for _ in range(3):
            first = times(first, first)
        self.assertIs(is_number(first), True)
        self.assertEqual(order(less(plus(first, second), first), second), 0)


class Near(Told, unittest.TestCase):
    def test_exactly_at_a_part(self):
        for value, many, wanted in (
            (NIL, 1, (0, True)), (HALF, 1, (0, False)), (HALF, 2, (1, True)), (HALF, 3, (1, False)), (HALF, 4, (2, True)),
            ((-1, 2), 1, (-1, False)), ((-1, 2), 2, (-1, True)), ((-1, 2), 3, (-2, False)), ((7, 1), 1, (7, True)),
            ((-7, 1), 10, (-70, True)), ((1, 3), 10 ** 6, (333333, False)), ((-1, 3), 10 ** 6, (-333334, False)),
            ((999999, 1000000), 10 ** 6, (999999, True)), ((1, 10 ** 6), 10 ** 6, (1, True)), ((-1, BIG), 1, (-1, False)),
            ((BIG - 1, BIG), 1, (0, False)), ((BIG, 1), 1, (BIG, True)), ((2 * BIG - 1, 2), 1, (BIG - 1, False)),
        ):
            self.assert_plain(near(value, many), wanted)

    def test_roots(self):
        for value, many, wanted in (
            (ROOT_TWO, 1, 1), (ROOT_TWO, 10, 14), (ROOT_TWO, 10 ** 6, 1414213), ((1, 0, -2, False), 1, -2),
            ((1, 0, -2, False), 10, -15), ((1, 0, -2, False), 10 ** 6, -1414214), ((1, -2, -1, False), 1000, -415),
            ((1, -1, -1, True), 100, 161), ((1, -1, -1, False), 100, -62), ((2, 0, -1, True), 1, 0), ((2, 0, -1, False), 1, -1),
            ((1, -4, 2, True), 1, 3), ((1, 4, 2, False), 1, -4),
        ):
            self.assert_plain(near(value, many), (wanted, False))

    def test_just_beside_a_whole_number(self):
        # The root of n n + 1 is just above n, that of n n - 1 just below.
        for n in (2, 3, 10 ** 50, BIG, BIG + 7):
            for many in (1, 2, 7, 10 ** 6):
                above = root_of(pair(Fraction(n * n + 1, many * many)))
                below = root_of(pair(Fraction(n * n - 1, many * many)))
                self.assert_plain(near(above, many), (n, False))
                self.assert_plain(near(below, many), (n - 1, False))
                self.assert_plain(near(less(NIL, above), many), (-n - 1, False))
                self.assert_plain(near(less(NIL, below), many), (-n, False))

    def test_against_digits(self):
        chance = random.Random(5)
        for _ in range(300):
            value = some_root(chance, chance.choice((2, 3, 5, 11)))[2]
            many = chance.randint(1, 10 ** 6)
            with localcontext() as context:
                context.prec = DIGITS
                part = (decimal(value) * many).to_integral_value(rounding="ROUND_FLOOR")
            self.assert_plain(near(value, many), (int(part), False))


class Between(Told, unittest.TestCase):
    def is_between(self, low, high):
        for found in (between(low, high), between(high, low)):
            self.assertIs(kind_of(found), tuple)
            self.assertEqual(len(found), 2)
            self.assertIs(is_number(found), True)
            self.assertEqual([order(low, found), order(found, high)], [-1, -1])

    def test_one_number(self):
        for value in (NIL, HALF, (-7, 3), ROOT_TWO, (1, 0, -2, False), (BIG, BIG + 1), (1, 0, -BIG * BIG - 1, True)):
            self.assertIsNone(between(value, value))
        self.assertIsNone(between(plus(ONE, ROOT_TWO), (1, -2, -1, True)))

    def test_either_first(self):
        values = (
            (-BIG, 1), (-2, 1), (1, 0, -3, False), (-3, 2), (1, 0, -2, False), MINUS, (-1, 2), (-1, BIG), NIL, (1, BIG), (1, 3),
            HALF, (2, 0, -1, True), ONE, ROOT_TWO, (3, 2), ROOT_THREE, TWO, (BIG, 1), (1, 0, -BIG * BIG - 1, True), (BIG + 1, 1),
        )
        for k, low in enumerate(values):
            for high in values[k + 1:]:
                self.is_between(low, high)

    def test_very_close(self):
        for digits in (10, 100, 390):
            many = 10 ** digits
            low = isqrt(2 * many * many)
            self.is_between((low, many) if gcd(low, many) == 1 else pair(Fraction(low, many)), ROOT_TWO)
            self.is_between(ROOT_TWO, pair(Fraction(low + 1, many)))
            self.is_between(pair(Fraction(-low - 1, many)), (1, 0, -2, False))
            self.is_between((many, many + 1), (many + 1, many + 2))
            self.is_between(root_of((many + 1, 1)), root_of((many + 2, 1)))
            gap = isqrt(2 * many * many) - isqrt(3 * many * many)
            self.is_between(plus(pair(Fraction(gap - 1, many)), ROOT_THREE), ROOT_TWO)

    def test_many(self):
        chance = random.Random(8)
        values = [some_root(chance, chance.choice((2, 3, 5)))[2] for _ in range(60)]
        values += [pair(some_fraction(chance)) for _ in range(20)]
        for value in values:
            other = chance.choice(values)
            if value != other:
                first, second = (value, other) if decimal(value) < decimal(other) else (other, value)
                self.is_between(first, second)

    def test_by_digits(self):
        found = between(ROOT_TWO, (3, 2))
        self.assertTrue(decimal(ROOT_TWO) < decimal(found) < Decimal("1.5"))
        self.assertTrue(is_near(decimal(ROOT_TWO) ** 2, Decimal(2)))


if __name__ == "__main__":
    unittest.main()
