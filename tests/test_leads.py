"""Leads: where they lead, one behind the other, back, turns and mirrors ([26])."""

import random
import unittest
from fractions import Fraction

from planehall.curves import crossings, do_touch, form_of, is_curve, is_place, line_through, sign_at
from planehall.leads import back, behind, is_lead, is_rigid, led_curve, led_place, mirror, move, turn
from planehall.roots import less, order, plus, times
from tests.helpers import (
    FLOOR, HALF, MINUS, NIL, ONE, POST, RING, ROOT_TWO, THREE, TWO, Told, circle, fraction, line, point,
)
from tests.oracle import lead, led_by, led_from, some_curves, some_lead

ORIGIN = (NIL, NIL)
STILL = lead(1, 0, False, 0, 0)
ROOT_HALF, GOLD = (2, 0, -1, True), (1, -1, -1, True)
BIG = 10 ** 200
PLACES = (ORIGIN, (ONE, NIL), (HALF, (-3, 7)), (ROOT_TWO, NIL), (ROOT_TWO, ROOT_HALF), (GOLD, (1, -3, 1, False)), ((-1, BIG), (BIG, 1)))
LEADS = (
    STILL, lead(0, 1, False, 0, 0), lead(-1, 0, True, 1, -2), lead(2, 0, False, Fraction(1, 3), 0), lead(Fraction(3, 5), Fraction(-4, 5), True, 0, 5),
    lead(Fraction(-1, 7), Fraction(5, 2), False, -1, Fraction(2, 9)), lead(0, Fraction(-1, BIG), True, BIG, 0), lead(1, 1, True, 0, 0),
)


def some_fraction(chance):
    return Fraction(chance.randint(-9, 9), chance.randint(1, 5))


def any_lead(chance):
    a, b = some_fraction(chance), some_fraction(chance)
    return lead(a or (0 if b else 1), b, chance.random() < 0.5, some_fraction(chance), some_fraction(chance))


def some_points(chance, many):
    return [(some_fraction(chance), some_fraction(chance)) for _ in range(many)]


class Places(Told, unittest.TestCase):
    def test_by_hand(self):
        for told, place, wanted in (
            (STILL, (ROOT_TWO, HALF), (ROOT_TWO, HALF)), (lead(0, 1, False, 0, 0), (ONE, NIL), (NIL, ONE)), (lead(0, 1, False, 0, 0), (NIL, ONE), (MINUS, NIL)),
            (lead(1, 0, True, 0, 0), (ONE, TWO), (ONE, (-2, 1))), (lead(0, 1, True, 0, 0), (ONE, TWO), (TWO, ONE)), (lead(2, 0, False, 1, -1), (HALF, THREE), (TWO, (5, 1))),
            (lead(1, 0, False, 3, 4), (MINUS, ONE), (TWO, (5, 1))), (lead(3, 4, False, 0, 0), (THREE, (-4, 1)), ((25, 1), NIL)),
            (lead(1, 1, False, 0, 0), (ROOT_HALF, ROOT_HALF), (NIL, ROOT_TWO)), (lead(1, 1, True, 1, 0), (ROOT_HALF, ROOT_HALF), ((1, -2, -1, True), NIL)),
            (lead(1, 0, False, 0, 0), (ROOT_TWO, (1, 0, -8, False)), (ROOT_TWO, (1, 0, -8, False))),
        ):
            self.assert_plain(led_place(told, place), wanted)

    def test_points(self):
        chance = random.Random(71)
        for _ in range(200):
            told = any_lead(chance)
            for x, y in some_points(chance, 3):
                self.assert_plain(led_place(told, point(x, y)), point(*led_by(told, x, y)))

    def test_places_of_roots(self):
        for a, b, is_mirrored, (u, v) in LEADS:
            for x, y in PLACES:
                height = less(NIL, y) if is_mirrored else y
                wanted = (plus(less(times(a, x), times(b, height)), u), plus(plus(times(b, x), times(a, height)), v))
                told = (a, b, is_mirrored, (u, v))
                self.assert_plain(led_place(told, (x, y)), wanted)
                self.assertIs(is_place(wanted), True)
                self.assert_plain(led_place(back(told), wanted), (x, y))

    def test_distances_are_multiplied_by_one_number(self):
        chance = random.Random(72)
        for _ in range(60):
            told = any_lead(chance)
            (x, y), (u, v) = some_points(chance, 2)
            first, second = [[fraction(part) for part in led_place(told, point(*spot))] for spot in ((x, y), (u, v))]
            wide = fraction(told[0]) ** 2 + fraction(told[1]) ** 2
            far = (first[0] - second[0]) ** 2 + (first[1] - second[1]) ** 2
            self.assertEqual(far, wide * ((x - u) ** 2 + (y - v) ** 2))


class Curves(Told, unittest.TestCase):
    def test_by_hand(self):
        for told, curve, wanted in (
            (lead(1, 0, False, 1, 0), RING, circle(1, 0, 1)), (lead(2, 0, False, 0, 0), RING, circle(0, 0, 4)), (lead(1, 1, False, 0, 0), circle(1, 0, 3), circle(1, 1, 6)),
            (lead(0, 1, True, 0, 2), circle(1, 2, 1), circle(2, 3, 1)), (lead(2, 0, False, 0, 0), line(1, 0, 1), line(2, 0, 4)), (STILL, line(2, 4, 6), line(2, 4, 6)),
            (STILL, line(-2, 0, 1), line(-2, 0, 1)), (lead(0, 1, False, 0, 0), FLOOR, line(-1, 0, 0)), (lead(1, 0, True, 0, 0), FLOOR, line(0, -1, 0)),
            (lead(0, 1, True, 0, 0), line(0, -3, 2), line(-3, 0, 2)), (lead(1, 0, False, 3, 4), line(1, 1, 0), line(1, 1, 7)),
            (lead(Fraction(1, 2), 0, False, 1, 1), line(4, 0, 4), line(2, 0, 3)), (lead(3, 4, True, 1, 0), line(0, 1, 1), line(4, -3, 29)),
        ):
            self.assert_plain(led_curve(told, curve), wanted)

    def test_sides_stay(self):
        """Inside to inside, outside to outside, of curves as they are told."""
        chance = random.Random(73)
        for _ in range(150):
            told = any_lead(chance)
            for curve in some_curves(chance, 3):
                if curve[0] == "line" and chance.random() < 0.5:
                    many = chance.choice((-1, Fraction(-2, 3), Fraction(5, 4)))
                    curve = line(*[fraction(part) * many for part in curve[1:]])
                led = led_curve(told, curve)
                self.assertIs(is_curve(led), True)
                self.assertEqual(led[0], curve[0])
                for x, y in some_points(chance, 3):
                    self.assertEqual(sign_at(led, point(*led_by(told, x, y))), sign_at(curve, point(x, y)))

    def test_places_in_common_are_led(self):
        chance = random.Random(74)
        for _ in range(60):
            told, (first, second) = some_lead(chance), some_curves(chance, 2)
            led = [led_curve(told, curve) for curve in (first, second)]
            self.assertEqual(set(crossings(*led)), {led_place(told, place) for place in crossings(first, second)})
            self.assertEqual(do_touch(*led), do_touch(first, second))

    def test_multiples_as_the_document_tells(self):
        chance = random.Random(75)
        for _ in range(100):
            told = any_lead(chance)
            a, b, c = chance.randint(1, 5), some_fraction(chance), some_fraction(chance)
            wide = fraction(told[0]) ** 2 + fraction(told[1]) ** 2
            x, y = led_by((told[0], told[1], told[2], ORIGIN), Fraction(a), b)
            u, v = [fraction(part) for part in told[3]]
            self.assert_plain(led_curve(told, line(a, b, c)), line(x, y, wide * c + x * u + y * v))


class OneBehindTheOther(Told, unittest.TestCase):
    def test_by_hand(self):
        quarter, flip = lead(0, 1, False, 0, 0), lead(1, 0, True, 0, 0)
        for first, second, wanted in (
            (quarter, quarter, lead(-1, 0, False, 0, 0)), (quarter, flip, lead(0, -1, True, 0, 0)), (flip, quarter, lead(0, 1, True, 0, 0)),
            (flip, flip, STILL), (move((ONE, NIL)), quarter, lead(0, 1, False, 0, 1)), (quarter, move((ONE, NIL)), lead(0, 1, False, 1, 0)),
            (lead(2, 0, False, 0, 1), lead(0, 1, True, 5, 0), lead(0, 2, True, 6, 0)),
        ):
            self.assert_plain(behind(first, second), wanted)

    def test_first_the_lead_then_the_later_one(self):
        chance = random.Random(76)
        for _ in range(150):
            first, second = any_lead(chance), any_lead(chance)
            both = behind(first, second)
            self.assertIs(is_lead(both), True)
            for x, y in some_points(chance, 3):
                self.assert_plain(led_place(both, point(x, y)), led_place(second, led_place(first, point(x, y))))
            self.assert_plain(led_curve(both, RING), led_curve(second, led_curve(first, RING)))
            self.assert_plain(led_curve(both, line(-2, 3, 5)), led_curve(second, led_curve(first, line(-2, 3, 5))))
        for first in LEADS:
            for second in LEADS:
                for place in PLACES:
                    self.assert_plain(led_place(behind(first, second), place), led_place(second, led_place(first, place)))

    def test_back(self):
        chance = random.Random(77)
        for told in LEADS + tuple(any_lead(chance) for _ in range(150)):
            undone = back(told)
            self.assertIs(is_lead(undone), True)
            self.assert_plain([behind(told, undone), behind(undone, told), back(undone)], [STILL, STILL, told])
            for x, y in some_points(chance, 2):
                self.assert_plain(led_place(undone, point(x, y)), point(*led_from(told, x, y)))
        self.assert_plain(back(move((ONE, (-2, 3)))), move((MINUS, (2, 3))))
        self.assert_plain(back(lead(2, 0, True, 1, 1)), lead(Fraction(1, 2), 0, True, Fraction(-1, 2), Fraction(1, 2)))

    def test_orders_of_three(self):
        chance = random.Random(78)
        for _ in range(60):
            first, second, third = [any_lead(chance) for _ in range(3)]
            self.assert_plain(behind(behind(first, second), third), behind(first, behind(second, third)))
            self.assert_plain(behind(first, STILL), first)
            self.assert_plain(behind(STILL, first), first)


class Rigid(Told, unittest.TestCase):
    def test_is_rigid(self):
        for told, wanted in (
            (STILL, True), (lead(Fraction(3, 5), Fraction(4, 5), True, 1, 2), True), (lead(0, -1, False, 9, 9), True), (lead(-1, 0, True, 0, 0), True),
            (lead(2, 0, False, 0, 0), False), (lead(1, 1, False, 0, 0), False), (lead(Fraction(1, 2), 0, True, 0, 0), False),
            (lead(Fraction(1, 2), Fraction(1, 2), False, 0, 0), False), (lead(Fraction(BIG, BIG + 1), 0, False, 0, 0), False),
        ):
            self.assertIs(is_rigid(told), wanted)

    def test_move(self):
        for shift in (ORIGIN, (ONE, NIL), ((-7, 3), HALF)):
            self.assert_plain(move(shift), (ONE, NIL, False, shift))
            self.assertIs(is_rigid(move(shift)), True)
        self.assert_plain(led_place(move((HALF, MINUS)), (ROOT_TWO, ROOT_TWO)), ((4, -4, -7, True), (1, 2, -1, True)))

    def test_turn(self):
        for way, a, b in (
            ((2, 1), Fraction(3, 5), Fraction(4, 5)), ((1, 1), 0, 1), ((1, 0), 1, 0), ((0, 1), -1, 0), ((-1, 0), 1, 0), ((0, -5), -1, 0), ((1, -1), 0, -1),
            ((3, 1), Fraction(4, 5), Fraction(3, 5)), ((Fraction(1, 2), Fraction(1, 3)), Fraction(5, 13), Fraction(12, 13)), ((-2, -1), Fraction(3, 5), Fraction(4, 5)),
        ):
            self.assert_plain(turn(point(*way)), lead(a, b, False, 0, 0))
            self.assertIs(is_rigid(turn(point(*way))), True)

    def test_turns_turn_by_twice_the_angle(self):
        chance = random.Random(79)
        for _ in range(60):
            a, b = chance.randint(-9, 9), some_fraction(chance)
            if a or b:
                # (1, 0), led by the turn, is where (a, b) times itself stands.
                x, y = [fraction(part) for part in led_place(turn(point(a, b)), (ONE, NIL))]
                self.assertEqual((x * (a * a + b * b), y * (a * a + b * b)), (a * a - b * b, 2 * a * b))

    def test_each_rigid_lead_is_a_turn(self):
        for p, q, r in ((3, 4, 5), (-5, 12, 13), (8, -15, 17), (-20, -21, 29), (0, 1, 1), (1, 0, 1), (0, -1, 1)):
            told = lead(Fraction(p, r), Fraction(q, r), False, 0, 0)
            self.assert_plain(turn((plus(ONE, told[0]), told[1])), told)
        self.assert_plain(turn((NIL, ONE)), lead(-1, 0, False, 0, 0))

    def test_mirror(self):
        for told, wanted in (
            (FLOOR, lead(1, 0, True, 0, 0)), (POST, lead(-1, 0, True, 0, 0)), (line(1, 0, Fraction(1, 2)), lead(-1, 0, True, 1, 0)), (line(1, -1, 0), lead(0, 1, True, 0, 0)),
            (line(1, 1, 1), lead(0, -1, True, 1, 1)), (line(0, 2, 6), lead(1, 0, True, 0, 6)), (line(2, 1, 5), lead(Fraction(-3, 5), Fraction(-4, 5), True, 4, 2)),
        ):
            self.assert_plain(mirror(told), wanted)

    def test_mirrors_of_many_lines(self):
        chance = random.Random(80)
        for _ in range(100):
            a, b, c = chance.randint(-4, 4), chance.randint(1, 4), some_fraction(chance)
            told = mirror(line(a, b, c))
            self.assertIs(is_rigid(told), True)
            self.assert_plain(behind(told, told), STILL)
            for many in (-1, Fraction(2, 3)):
                self.assert_plain(mirror(line(a * many, b * many, c * many)), told)
            for x, y in some_points(chance, 3):
                u, v = [fraction(part) for part in led_place(told, point(x, y))]
                # Half way is on the line, and the way there runs across it.
                self.assertEqual(a * (x + u) / 2 + b * (y + v) / 2, c)
                self.assertEqual(-b * (u - x) + a * (v - y), 0)
            self.assert_plain(form_of(led_curve(told, line(a, b, c))), form_of(line(a, b, c)))

    def test_places_on_the_line_stay(self):
        told = mirror(line_through((NIL, ONE), (ONE, NIL)))
        place = (ROOT_TWO, less(ONE, ROOT_TWO))
        self.assert_plain(led_place(told, place), place)
        self.assertEqual(order(times(ROOT_TWO, ROOT_TWO), TWO), 0)


if __name__ == "__main__":
    unittest.main()
