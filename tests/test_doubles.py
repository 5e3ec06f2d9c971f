import math
import unittest

from askednumbers import doubles
from due import FINEST, GREATEST, LEAST_NORMAL, NOT_FINITE, bits, drawn, number, some_double

FLOAT_OPERATIONS = {
    "plus": lambda x, y: x + y,
    "minus": lambda x, y: x - y,
    "times": lambda x, y: x * y,
    "divided": lambda x, y: x / y if y != 0 else math.nan,
}
OPERATIONS = {
    "plus": doubles.plus,
    "minus": doubles.minus,
    "times": doubles.times,
    "divided": doubles.divided,
}


class Operations(unittest.TestCase):
    def makes(self, name, x, y, due):
        """due stands beside the float's own answer, so that a slip in either shows."""
        self.assertEqual(bits(FLOAT_OPERATIONS[name](x, y)), bits(due), (name, x, y))
        self.assertEqual(OPERATIONS[name](bits(x), bits(y)), bits(due), (name, x, y))

    def like_floats(self, name, x, y):
        due = FLOAT_OPERATIONS[name](number(x), number(y))
        if math.isfinite(due):
            self.assertEqual(OPERATIONS[name](x, y), bits(due), (name, hex(x), hex(y)))
        else:
            with self.assertRaises(doubles.NotFinite, msg=(name, hex(x), hex(y))):
                OPERATIONS[name](x, y)

    def test_ordinary(self):
        self.makes("plus", 1.5, 2.25, 3.75)
        self.makes("plus", 1.5, -2.25, -0.75)
        self.makes("plus", 0.1, 0.2, 0.30000000000000004)
        self.makes("minus", 1.5, 2.25, -0.75)
        self.makes("minus", -1.5, -2.25, 0.75)
        self.makes("times", 1.5, -2.25, -3.375)
        self.makes("times", 0.1, 0.1, 0.010000000000000002)
        self.makes("divided", 1.0, 3.0, 0.3333333333333333)
        self.makes("divided", -2.0, 3.0, -0.6666666666666666)
        self.makes("divided", 7.5, 2.5, 3.0)
        self.makes("divided", 10.0, 65536.0, 10 * 2.0 ** -16)

    def test_ties_go_to_the_last_bit_0(self):
        step = 2.0 ** -52
        self.makes("plus", 1.0, step / 2, 1.0)
        self.makes("plus", 1 + step, step / 2, 1 + 2 * step)
        self.makes("plus", -1.0, -step / 2, -1.0)
        self.makes("plus", -1 - step, -step / 2, -1 - 2 * step)
        self.makes("minus", 1 + step, -step / 2, 1 + 2 * step)
        self.makes("minus", 2.0, step / 2, 2.0)
        self.makes("minus", 2.0, 1.5 * step, 2 - 2 * step)
        # 54 bits, the last one set: a tie, with the bit ahead of it 1, and then 0.
        self.makes("times", 2.0 ** 27 + 1, 2.0 ** 27 - 1, 2.0 ** 54)
        self.makes("times", 3.0, 3002399751580331.0, 9007199254740992.0)
        self.makes("times", 5.0, 1801439850948199.0, 9007199254740996.0)

    def test_just_beside_a_tie(self):
        step = 2.0 ** -52
        little = 2.0 ** -900
        self.makes("plus", 1.0, step / 2 + step * step, 1 + step)
        self.makes("plus", 1 + step, step / 2 - step * step, 1 + step)
        self.makes("plus", 1.0, little, 1.0)
        self.makes("minus", 1.0, little, 1.0)
        self.makes("minus", 1.0, step / 4 + step * step, 1 - step / 2)
        self.makes("minus", GREATEST, FINEST, GREATEST)

    def test_carries_into_the_next_power_of_two(self):
        step = 2.0 ** -52
        self.makes("plus", 2 - step, step / 2, 2.0)
        self.makes("plus", 2 - step, step, 2.0)
        self.makes("plus", 4 - 2 * step, step, 4.0)
        self.makes("times", 1 + step, 1 - step / 2, 1.0)
        self.makes("times", 1 + step, 2 - step, 2.0)
        self.makes("minus", 1.0, step / 4, 1.0)
        self.makes("minus", -2 + step, step / 2, -2.0)

    def test_denormals(self):
        self.makes("plus", FINEST, FINEST, 2 * FINEST)
        self.makes("minus", 3 * FINEST, FINEST, 2 * FINEST)
        self.makes("times", FINEST, 0.5, 0.0)
        self.makes("times", -FINEST, 0.5, -0.0)
        self.makes("times", 3 * FINEST, 0.5, 2 * FINEST)
        self.makes("times", 5 * FINEST, 0.5, 2 * FINEST)
        self.makes("times", FINEST, 0.75, FINEST)
        self.makes("times", FINEST, FINEST, 0.0)
        self.makes("divided", FINEST, 2.0, 0.0)
        self.makes("divided", 3 * FINEST, 2.0, 2 * FINEST)
        self.makes("divided", 5 * FINEST, 2.0, 2 * FINEST)
        self.makes("divided", FINEST, 3.0, 0.0)
        self.makes("divided", 2 * FINEST, 3.0, FINEST)
        self.makes("divided", FINEST, FINEST, 1.0)
        self.makes("divided", 1.0, GREATEST, 5.562684646268003e-309)
        self.makes("divided", -FINEST, GREATEST, -0.0)
        self.makes("times", 1e-200, 1e-120, 1e-320)

    def test_step_from_denormals_to_the_others(self):
        below = LEAST_NORMAL - FINEST
        self.makes("plus", below, FINEST, LEAST_NORMAL)
        self.makes("minus", LEAST_NORMAL, FINEST, below)
        self.makes("minus", -LEAST_NORMAL, -FINEST, -below)
        self.makes("plus", below, below, 2 * LEAST_NORMAL - 2 * FINEST)
        # The tie between the greatest denormal and the least of the others.
        self.makes("times", 2 * LEAST_NORMAL - FINEST, 0.5, LEAST_NORMAL)
        self.makes("divided", 2 * LEAST_NORMAL - FINEST, 2.0, LEAST_NORMAL)
        self.makes("divided", 2 * LEAST_NORMAL - 3 * FINEST, 2.0, LEAST_NORMAL - 2 * FINEST)

    def test_not_finite(self):
        over = 2.0 ** 970
        for name, x, y in [
            ("plus", GREATEST, GREATEST), ("plus", GREATEST, over), ("plus", -GREATEST, -over),
            ("minus", GREATEST, -over), ("minus", -GREATEST, over), ("times", GREATEST, 2.0),
            ("times", GREATEST, 1 + 2.0 ** -52), ("times", -1e200, 1e200), ("times", 2.0 ** 512, 2.0 ** 512),
            ("divided", GREATEST, 0.5), ("divided", 1.0, FINEST), ("divided", GREATEST, -FINEST),
            ("divided", 1.0, 0.0), ("divided", -1.0, -0.0), ("divided", 0.0, 0.0), ("divided", -0.0, 0.0),
        ]:
            with self.subTest(name=name, x=x, y=y), self.assertRaises(doubles.NotFinite):
                OPERATIONS[name](bits(x), bits(y))

    def test_the_greatest_that_is_still_finite(self):
        short_of_a_tie = math.nextafter(2.0 ** 970, 0)
        self.makes("plus", GREATEST, short_of_a_tie, GREATEST)
        self.makes("minus", -GREATEST, short_of_a_tie, -GREATEST)
        self.makes("plus", GREATEST / 2, GREATEST / 2, GREATEST)
        self.makes("times", GREATEST, 1.0, GREATEST)
        self.makes("divided", GREATEST, 1.0, GREATEST)

    def test_zeros_and_their_signs(self):
        values = [0.0, -0.0, 1.0, -1.0, FINEST, -FINEST, GREATEST, -GREATEST]
        for name in OPERATIONS:
            for x in values:
                for y in values:
                    self.like_floats(name, bits(x), bits(y))
        self.makes("plus", -0.0, -0.0, -0.0)
        self.makes("plus", -0.0, 0.0, 0.0)
        self.makes("plus", 0.0, -0.0, 0.0)
        self.makes("minus", -0.0, 0.0, -0.0)
        self.makes("minus", -0.0, -0.0, 0.0)
        self.makes("minus", -1.5, -1.5, 0.0)
        self.makes("times", -0.0, 3.0, -0.0)
        self.makes("times", -0.0, -3.0, 0.0)
        self.makes("divided", 0.0, -3.0, -0.0)
        self.makes("divided", -0.0, -3.0, 0.0)

    def test_drawn_at_random(self):
        source = drawn(1)
        for turn in range(20000):
            x = some_double(source)
            y = some_double(source)
            for name in OPERATIONS:
                self.like_floats(name, x, y)

    def test_neighbours(self):
        source = drawn(2)
        for turn in range(3000):
            x = some_double(source)
            y = x ^ source.choice([0, 1, 2, 3, 1 << 52, 1 << 63, (1 << 63) | 1, (1 << 63) | (1 << 52)])
            if math.isfinite(number(y)):
                for name in OPERATIONS:
                    self.like_floats(name, x, y)


class Comparing(unittest.TestCase):
    def compared(self, x, y):
        self.assertIs(doubles.less(x, y), number(x) < number(y), (hex(x), hex(y)))

    def test_both_signs_denormals_and_zeros(self):
        above = [FINEST, 2 * FINEST, LEAST_NORMAL - FINEST, LEAST_NORMAL, 0.5, 1.0, math.nextafter(1.0, 2.0), 2.0,
                 1e300, GREATEST]
        rising = [-one for one in reversed(above)] + [0.0] + above
        for i, x in enumerate(rising):
            for k, y in enumerate(rising):
                self.assertIs(doubles.less(bits(x), bits(y)), i < k, (x, y))

    def test_the_zeros_are_one_number(self):
        for x in [0.0, -0.0]:
            for y in [0.0, -0.0]:
                self.assertIs(doubles.less(bits(x), bits(y)), False)
            self.assertIs(doubles.less(bits(x), bits(FINEST)), True)
            self.assertIs(doubles.less(bits(FINEST), bits(x)), False)
            self.assertIs(doubles.less(bits(x), bits(-FINEST)), False)
            self.assertIs(doubles.less(bits(-FINEST), bits(x)), True)

    def test_drawn_at_random(self):
        source = drawn(5)
        for turn in range(20000):
            x = some_double(source)
            y = some_double(source)
            for other in [y, x, x ^ 1, x ^ (1 << 63), y ^ (1 << 63)]:
                self.compared(x, other)
                self.compared(other, x)


class Parts(unittest.TestCase):
    def test_finite(self):
        for pattern in NOT_FINITE:
            with self.subTest(pattern=hex(pattern)), self.assertRaises(doubles.NotFinite):
                doubles.finite(pattern)
        for value in [0.0, -0.0, 1.0, FINEST, -LEAST_NORMAL, GREATEST, -GREATEST]:
            self.assertEqual(doubles.finite(bits(value)), bits(value))

    def test_same_number(self):
        self.assertTrue(doubles.same_number(bits(0.0), bits(-0.0)))
        self.assertTrue(doubles.same_number(bits(1.5), bits(1.5)))
        self.assertFalse(doubles.same_number(bits(1.5), bits(-1.5)))
        self.assertFalse(doubles.same_number(bits(0.0), bits(FINEST)))

    def test_is_zero(self):
        self.assertTrue(doubles.is_zero(bits(0.0)))
        self.assertTrue(doubles.is_zero(bits(-0.0)))
        self.assertFalse(doubles.is_zero(bits(FINEST)))
        self.assertFalse(doubles.is_zero(bits(-FINEST)))

    def test_without_sign(self):
        for value in [0.0, 1.5, FINEST, LEAST_NORMAL, GREATEST]:
            self.assertEqual(doubles.without_sign(bits(value)), bits(value))
            self.assertEqual(doubles.without_sign(bits(-value)), bits(value))

    def test_from_count(self):
        for count in list(range(300)) + [4095, 4096, 32767, 65535, 65536]:
            self.assertEqual(doubles.from_count(count), bits(float(count)))


if __name__ == "__main__":
    unittest.main()
