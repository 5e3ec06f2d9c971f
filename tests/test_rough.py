import math
import unittest

from askednumbers.asking import rough
from due import CallCase, FINEST, GREATEST, NOT_FINITE
from due import all_bits, answers_by, bits, drawn, number, rough_due, rough_steps, some_double

# From 0 to 12 the whole piece's heights count 2 times, those of its halves once.
FIRST_FIVE = [0.0, 6.0, 12.0, 3.0, 9.0]
# From 0 to 24 it's 4 times, 2 times, and once for the halves' halves.
FIRST_NINE = [0.0, 12.0, 24.0, 6.0, 18.0, 3.0, 9.0, 15.0, 21.0]


class RoughCase(CallCase):
    call = staticmethod(rough)
    call_due = staticmethod(rough_due)
    steps = staticmethod(rough_steps)


class NearEnoughAtOnce(RoughCase):
    def test_no_difference(self):
        self.gives(0.0, 12.0, 1.0, [1.0] * 5, FIRST_FIVE, [12.0])
        self.gives(0.0, 12.0, FINEST, [1.0] * 5, FIRST_FIVE, [12.0])
        self.gives(0.0, 12.0, 1.0, [0.0, 36.0, 144.0, 9.0, 81.0], FIRST_FIVE, [576.0])

    def test_each_height_counts_as_told(self):
        # S1 + S2 is 1, 2, 1, 4, 4 times its height, S 2, 8, 2 times; a fifteenth of the difference is added.
        near = 1e3
        for place, due in enumerate([1 + -1 / 15, 2 + -6 / 15, 1 + -1 / 15, 4 + 4 / 15, 4 + 4 / 15]):
            answers = [0.0] * 5
            answers[place] = 1.0
            self.gives(0.0, 12.0, near, answers, FIRST_FIVE, [due])

    def test_the_size_of_the_difference(self):
        # S is 12, S2 6 and S1 2 + 4 * f(3): with 4.75 the difference is 15, just 15 times near.
        little = 2.0 ** -50
        self.gives(0.0, 12.0, 1.0, [1.0, 1.0, 1.0, 4.75, 1.0], FIRST_FIVE, [28.0])
        self.gives(0.0, 12.0, 1.0, [1.0, 1.0, 1.0, 4.75 - little, 1.0], FIRST_FIVE,
                   [27 - 4 * little + (15 - 4 * little) / 15])
        self.gives(0.0, 12.0, 1.0, [1.0, 1.0, 1.0, 4.75 + little, 1.0], FIRST_FIVE + [1.5], None)
        self.gives(0.0, 12.0, math.nextafter(1.0, 0.0), [1.0, 1.0, 1.0, 4.75, 1.0], FIRST_FIVE + [1.5], None)
        self.gives(0.0, 12.0, math.nextafter(1.0, 2.0), [1.0, 1.0, 1.0, 4.75, 1.0], FIRST_FIVE, [28.0])

    def test_the_size_of_a_difference_below_0(self):
        little = 2.0 ** -50
        self.gives(0.0, 12.0, 1.0, [1.0, 1.0, 1.0, -2.75, 1.0], FIRST_FIVE, [-4.0])
        self.gives(0.0, 12.0, 1.0, [1.0, 1.0, 1.0, -2.75 + little, 1.0], FIRST_FIVE,
                   [-3 + 4 * little + (-15 + 4 * little) / 15])
        self.gives(0.0, 12.0, 1.0, [1.0, 1.0, 1.0, -2.75 - little, 1.0], FIRST_FIVE + [1.5], None)
        self.gives(0.0, 12.0, math.nextafter(1.0, 0.0), [1.0, 1.0, 1.0, -2.75, 1.0], FIRST_FIVE + [1.5], None)

    def test_b_below_a_and_b_at_a(self):
        self.gives(12.0, 0.0, 1.0, [1.0, 1.0, 1.0, 4.75, 1.0], [12.0, 6.0, 0.0, 9.0, 3.0], [-28.0])
        # One question, answered five times, each time otherwise: nothing is of any width, so nothing differs.
        self.gives(2.0, 2.0, FINEST, [1.0, 2.0, 3.0, 4.0, 5.0], [2.0] * 5, [0.0])

    def test_zeros_and_their_signs(self):
        self.gives(0.0, 12.0, 1.0, [-0.0] * 5, FIRST_FIVE, [0.0])
        self.gives(-0.0, -0.0, 1.0, [1.0] * 5, [-0.0, 0.0, -0.0, 0.0, 0.0], [0.0])
        # S1 and S2 come to -0 from below, S is +0: the difference is -0, no more than anything.
        self.gives(0.0, 1.2, FINEST, [0.0, 0.0, 0.0, -FINEST, -FINEST], [0.0, 0.6, 1.2, 0.3, 0.6 + 0.6 * 0.5], [-0.0])


class Steps(RoughCase):
    def test_questions_are_rounded_step_by_step(self):
        a, b = 0.1, 0.8
        m = a + (b - a) * 0.5
        l = a + (m - a) * 0.5
        r = m + (b - m) * 0.5
        self.gives(a, b, 1.0, [1.0] * 3, [a, m, b, l], None)
        self.gives(a, b, 1.0, [1.0] * 4, [a, m, b, l, r], None)
        source = drawn(9)
        differs = 0
        for turn in range(200):
            a = source.uniform(-3, 3)
            b = source.uniform(-3, 3)
            m = a + (b - a) * 0.5
            l = a + (m - a) * 0.5
            r = m + (b - m) * 0.5
            self.gives(a, b, 1.0, [1.0] * 4, [a, m, b, l, r], None)
            differs += m != (a + b) * 0.5 or r != (m + b) * 0.5 or l != a + (b - a) * 0.25
        self.assertGreater(differs, 20)

    def test_the_sum_of_a_piece(self):
        # By itself each step rounds: heights from the left, the width over 6 ahead of the product.
        a, m, b = 0.0, 0.35, 0.7
        h = [0.1, 1.7, -0.3, 0.9, 1.3]
        l, r = 0.175, m + (b - m) * 0.5
        whole = (h[0] + 4 * h[1] + h[2]) * ((b - a) / 6)
        left = (h[0] + 4 * h[3] + h[1]) * ((m - a) / 6)
        right = (h[1] + 4 * h[4] + h[2]) * ((b - m) / 6)
        self.gives(a, b, 1.0, h, [a, m, b, l, r], [left + right + (left + right - whole) / 15])

    def test_order_of_the_heights(self):
        # From the left a 1 at a is swallowed by what comes next; a 1 at b is not, all else is gone by then.
        self.gives(0.0, 12.0, 1.0, [1.0, -4e16, 16e16, 1e16, -3e16], FIRST_FIVE, [0.0])
        self.gives(0.0, 12.0, 1.0, [16e16, -4e16, 1.0, -3e16, 1e16], FIRST_FIVE, [1 + -1 / 15])

    def test_order_of_the_answer(self):
        source = drawn(10)
        differs = 0
        for turn in range(300):
            h = [source.uniform(-9, 9) for place in range(5)]
            whole = (h[0] + 4 * h[1] + h[2]) * 2
            left = h[0] + 4 * h[3] + h[1]
            right = h[1] + 4 * h[4] + h[2]
            part = (left + right - whole) / 15
            self.gives(0.0, 12.0, 1e3, h, FIRST_FIVE, [left + right + part])
            differs += left + right + part != left + (right + part)
            differs += (left - whole) + right != left + right - whole
        self.assertGreater(differs, 50)


class WithinOneAnother(RoughCase):
    def test_the_left_ahead_of_the_right(self):
        # f(48) makes 64 in the left half; there it stays, and the right half comes to 4 and a fifteenth of it.
        self.gives(0.0, 192.0, 1.0, [0.0, 0.0, 0.0, 1.0, 0.0, 0.75, 0.75, 0.0, 0.125],
                   [0.0, 96.0, 192.0, 48.0, 144.0, 24.0, 72.0, 120.0, 168.0], [64 + (4 + 4 / 15)])

    def test_deeper_on_the_left_ahead_of_the_right(self):
        # The left half is 64 at first, its own halves come to 72 and 32.
        self.gives(0.0, 192.0, 1.0, [0.0, 0.0, 0.0, 1.0, 0.0, 2.0, 0.75, 1.25, 2.0, 1.0, 0.375, 0.0, 0.0],
                   [0.0, 96.0, 192.0, 48.0, 144.0, 24.0, 72.0, 12.0, 36.0, 60.0, 84.0, 120.0, 168.0], [104.0])

    def test_deeper_on_the_right_behind_the_left(self):
        self.gives(0.0, 192.0, 1.0, [0.0, 0.0, 0.0, 0.0, 1.0, 0.0, 0.0, 2.0, 0.75, 1.25, 2.0, 1.0, 0.375],
                   [0.0, 96.0, 192.0, 48.0, 144.0, 24.0, 72.0, 120.0, 168.0, 108.0, 132.0, 156.0, 180.0], [104.0])

    def test_near_is_halved_once_more(self):
        # The left half's left half differs by 3.75, just 15 times a fourth of near, and then by a little more.
        questions = [0.0, 96.0, 192.0, 48.0, 144.0, 24.0, 72.0, 12.0, 36.0, 60.0, 84.0, 120.0, 168.0]
        answers = [0.0, 0.0, 0.0, 1.0, 0.0, 2.0, 0.75, 1.484375, 2.0, 1.0, 0.375, 0.0, 0.0]
        self.gives(0.0, 192.0, 1.0, answers, questions, [108.0])
        answers[7] += 2.0 ** -50
        self.gives(0.0, 192.0, 1.0, answers[:9], questions[:9] + [6.0], None)

    def test_each_piece_takes_its_own_heights(self):
        # Distinct powers of 2: which heights a deeper piece was given shows in the sum.
        heights = [1.0, 2.0, 4.0, 2.0 ** 20, 2.0 ** 21, 2.0 ** 15, 2.0 ** 16, 2.0 ** 17, 2.0 ** 18]
        near = 1.5 * 2 ** 20
        f_a, f_m, f_b, f_l, f_r, f_ll, f_lr, f_rl, f_rr = heights
        area = 0.0
        for one, two, three, four, five in [(f_a, f_ll, f_l, f_lr, f_m), (f_m, f_rl, f_r, f_rr, f_b)]:
            whole = (one + 4 * three + five) * 2
            halves = (one + 4 * two + three) + (three + 4 * four + five)
            self.assertLessEqual(abs(halves - whole), 7.5 * near)
            area += halves + (halves - whole) / 15
        self.gives(0.0, 24.0, near, heights, FIRST_NINE, [area])

    def test_near_is_halved_for_both_halves(self):
        # f(6) makes 8 times its height in the left half and splits the whole; the half differs by 4 times what f(3)
        # is short of: 7.5 is still near enough, a little more is not.
        little = 2.0 ** -48
        for sign in [1, -1]:
            nine = [0.0, 0.0, 0.0, 8.0, 0.0, 6.0 + sign * 1.875, 6.0, 0.0, 0.0]
            self.gives(0.0, 24.0, 1.0, nine, FIRST_NINE, [64 + sign * 7.5 + sign * 0.5])
            nine[5] += sign * little
            self.gives(0.0, 24.0, 1.0, nine[:7], FIRST_NINE[:7] + [1.5], None)
            nine = [0.0, 0.0, 0.0, 0.0, 8.0, 0.0, 0.0, 6.0, 6.0 + sign * 1.875]
            self.gives(0.0, 24.0, 1.0, nine, FIRST_NINE, [64 + sign * 7.5 + sign * 0.5])
            nine[8] += sign * little
            self.gives(0.0, 24.0, 1.0, nine, FIRST_NINE + [13.5], None)

    def test_what_has_been_asked_is_not_asked_again(self):
        for near in [1e-3, 1e-6, 1e-9]:
            given = self.of_function(0.0, 3.0, near, lambda x: x * math.sin(x * x))
            # Three at first, then two for each piece, and each piece that is split brings two more.
            self.assertEqual(given[0] % 4, 1)
            questions = given[1:given[0] + 1]
            self.assertGreater(len(questions), 9)
            self.assertEqual(len(set(questions)), len(questions))
            self.assertEqual(len(given), given[0] + 3)
            self.assertEqual(given[-2], given[0])

    def test_ordinary_functions(self):
        given = self.of_function(0.0, math.pi, 1e-9, math.sin)
        self.assertAlmostEqual(number(given[-1]), 2.0, 8)
        given = self.of_function(0.0, 1.0, 1e-9, math.sqrt)
        self.assertAlmostEqual(number(given[-1]), 2 / 3, 7)
        given = self.of_function(1.0, 0.0, 1e-9, math.exp)
        self.assertAlmostEqual(number(given[-1]), 1 - math.e, 8)


class Deepest(RoughCase):
    # f is 1 at one end and 0 elsewhere: every piece at that end differs by a twelfth of its width, and the width is
    # halved as near is. At the deepest the width is 180: S1 + S2 is 15, the difference -15.
    END = 180.0 * 2 ** 20

    def at_left(self, near):
        return self.of_function(0.0, self.END, near, lambda x: 1.0 if x == 0 else 0.0)

    def test_down_at_the_left(self):
        for near in [math.nextafter(2.0 ** 20, 0.0), 1.0, 1e-300, FINEST]:
            given = self.at_left(near)
            # 21 pieces within one another, and 20 at the right of those.
            self.assertEqual(given[0], 3 + 2 * 41)
            self.assertEqual(given[-2:], [85, bits(14.0)])
            downwards = [self.END / 2 ** k for k in range(2, 23)]
            self.assertEqual(given[4:46:2], all_bits(downwards))
            # Then back upwards, the right one of each.
            upwards = [(self.END / 2 ** k) * 1.25 for k in range(20, 0, -1)]
            self.assertEqual(given[46::2][:20], all_bits(upwards))

    def test_down_at_the_right(self):
        given = self.of_function(-self.END, 0.0, 1.0, lambda x: 1.0 if x == 0 else 0.0)
        self.assertEqual(given[0], 3 + 2 * 41)
        self.assertEqual(given[-2:], [85, bits(14.0)])
        given = self.of_function(self.END, 0.0, 1.0, lambda x: 1.0 if x == 0 else 0.0)
        self.assertEqual(given[-2:], [85, bits(-14.0)])

    def test_at_once_instead(self):
        given = self.at_left(2.0 ** 20)
        self.assertEqual(given[0], 5)
        self.assertEqual(given[-1], bits(14.0 * 2 ** 20))

    def test_whatever_the_difference_is(self):
        # At the deepest the last two answers make a difference far above near, of either sign.
        answers = answers_by(rough_steps(0.0, self.END, 1.0), lambda x: 1.0 if x == 0 else 0.0)
        for height in [1e300, -1e300, 1e9, -1e9]:
            deepest = list(answers)
            # Of width 180 the heights of the halves count 60 times.
            deepest[43] = bits(height)
            given = rough(bits(0.0), bits(self.END), bits(1.0), deepest)
            self.assertEqual(given, rough_due(bits(0.0), bits(self.END), bits(1.0), deepest))
            self.assertEqual(given[0], 85)
            halves = (1 + 4 * height) * 15
            self.assertEqual(number(given[-1]), halves + (halves - 30) / 15)

    def test_one_less_deep(self):
        # The deepest but one still splits where its difference is above near.
        answers = answers_by(rough_steps(0.0, self.END, 1.0), lambda x: 1.0 if x == 0 else 0.0)
        answers[41] = bits(1e9)
        given = rough(bits(0.0), bits(self.END), bits(1.0), answers)
        self.assertEqual(given, rough_due(bits(0.0), bits(self.END), bits(1.0), answers))
        self.assertEqual(given[44:48], all_bits([45.0, 135.0, 225.0, 315.0]))


class NearGoingDown(RoughCase):
    def test_halved_among_denormals(self):
        # 3 steps halved are a tie, and make 2: the left half may differ by 30 steps, not by 34.
        one = FINEST
        nine = [2 * one, 0.0, 0.0, 100 * one, 0.0, 79 * one, 79 * one, 0.0, 0.0]
        self.gives(0.0, 24.0, 3 * one, nine, FIRST_NINE, [(834 + 2) * one])
        nine[6] = 80 * one
        self.gives(0.0, 24.0, 3 * one, nine[:7], FIRST_NINE[:7] + [1.5], None)
        # 5 steps halved make 2 as well, 7 make 4: 34 is too much, and then near enough.
        self.gives(0.0, 24.0, 5 * one, nine[:7], FIRST_NINE[:7] + [1.5], None)
        self.gives(0.0, 24.0, 7 * one, nine, FIRST_NINE, [(838 + 2) * one])

    def test_halved_to_0(self):
        one = FINEST
        # Near 0 nothing but no difference is near enough.
        same = [0.0, 0.0, 0.0, 100 * one, 0.0, 75 * one, 75 * one, 0.0, 0.0]
        self.gives(0.0, 24.0, one, same, FIRST_NINE, [800 * one])
        for other in [76 * one, 74 * one]:
            answers = list(same)
            answers[5] = other
            self.gives(0.0, 24.0, one, answers[:7], FIRST_NINE[:7] + [1.5], None)
        # With 2 steps of near the half may still differ by 15.
        answers[5] = 78 * one
        self.gives(0.0, 24.0, 2 * one, answers, FIRST_NINE, [(812 + 1) * one])

    def test_a_difference_of_one_step(self):
        # f(0) counts once in the left half's S1, and 2 times in its first sum: the half differs by -1 step.
        one = FINEST
        answers = [one, 0.0, 0.0, 100 * one, 0.0, 75 * one, 75 * one]
        self.gives(0.0, 24.0, one, answers, FIRST_NINE[:7] + [1.5], None)


class Near(RoughCase):
    def test_not_above_0(self):
        for near in [0.0, -0.0, -FINEST, -1.0, -1e-300, -GREATEST]:
            self.gives(0.0, 12.0, near, [1.0] * 5, [], -2)
            self.gives(0.0, 12.0, near, [], [], -2)
            # It is looked at ahead of what is reckoned.
            self.gives(-GREATEST, GREATEST, near, [], [], -2)

    def test_above_0(self):
        for near in [FINEST, 1e-310, 1.0, 1e307]:
            self.gives(0.0, 12.0, near, [1.0] * 5, FIRST_FIVE, [12.0])

    def test_not_finite(self):
        for pattern in NOT_FINITE:
            self.assertEqual(rough(bits(0.0), bits(12.0), pattern, all_bits([1.0] * 5)), [0, -4])
            self.assertEqual(rough(bits(0.0), bits(12.0), pattern, []), [0, -4])
            for other in NOT_FINITE:
                self.assertEqual(rough(other, bits(12.0), pattern, []), [0, -4])
                self.assertEqual(rough(bits(0.0), other, pattern, []), [0, -4])

    def test_what_is_not_finite_goes_ahead_of_near_that_is_not_above_0(self):
        for near in all_bits([0.0, -0.0, -1.0]):
            for pattern in NOT_FINITE:
                self.assertEqual(rough(pattern, bits(12.0), near, []), [0, -4])
                self.assertEqual(rough(bits(0.0), pattern, near, []), [0, -4])


class NotFinite(RoughCase):
    def test_a_and_b(self):
        one = bits(1.0)
        for pattern in NOT_FINITE:
            for end in all_bits([1.0, GREATEST, -GREATEST]):
                self.assertEqual(rough(pattern, end, one, [one] * 5), [0, -4])
                self.assertEqual(rough(end, pattern, one, [one] * 5), [0, -4])

    def test_each_answer(self):
        answers = all_bits([0.0, 0.0, 0.0, 8.0, 0.0, 6.0, 6.0, 0.0, 0.0])
        questions = all_bits(FIRST_NINE)
        for pattern in NOT_FINITE:
            for place in range(9):
                wrong = list(answers)
                wrong[place] = pattern
                due = [place + 1] + questions[:place + 1] + [-4]
                self.assertEqual(rough(bits(0.0), bits(24.0), bits(1.0), wrong), due)
                self.assertEqual(rough(bits(0.0), bits(24.0), bits(1.0), wrong[:place + 1]), due)

    def test_m(self):
        self.gives(-GREATEST, GREATEST, 1.0, [1.0] * 5, [], -4)
        self.gives(1e308, -1e308, 1.0, [], [], -4)
        self.gives(-GREATEST / 2, GREATEST / 2, 1.0, [0.0] * 5,
                   [-GREATEST / 2, 0.0, GREATEST / 2, -GREATEST / 4, GREATEST / 4], [0.0])

    def test_the_whole_piece_s_sum_goes_ahead_of_the_next_questions(self):
        three = FIRST_FIVE[:3]
        for answers in [
            [0.0, 5e307, 0.0],          # 4 * f(m)
            [-GREATEST, 5e307, 0.0],    # the same, though the sum would be finite
            [1e308, 2e307, -1e308],     # f(a) + 4 * f(m)
            [1e308, 0.0, 1e308],        # f(b) added
            [1e308, 0.0, 0.0],          # the product with the width
        ]:
            self.gives(0.0, 12.0, 1.0, answers, three, -4)
            self.gives(0.0, 12.0, 1.0, answers + [0.0, 0.0], three, -4)
        self.gives(0.0, 12.0, 1.0, [1e308, 0.0], three, None)

    def test_the_sums_of_the_halves_go_behind_both_questions(self):
        for answers in [
            [0.0, 0.0, 0.0, 5e307, 0.0],                        # S1: 4 * f(l)
            [0.0, 0.0, 0.0, 0.0, -5e307],                       # S2: 4 * f(r)
            [8e307, 0.0, 0.0, 4e307, 0.0],                      # S1: f(a) + 4 * f(l)
            [0.0, 4e306, 0.0, 4.4e307, 0.0],                    # S1: f(m) added
            [0.0, 2.2e307, -8.8e307, 0.0, 4.45e307],            # S2: f(m) + 4 * f(r)
            [0.0, 0.0, 4e306, 0.0, 4.4e307],                    # S2: f(b) added
        ]:
            self.gives(0.0, 12.0, 1.0, answers, FIRST_FIVE, -4)
            self.gives(0.0, 12.0, 1.0, answers[:4], FIRST_FIVE, None)
            self.gives(0.0, 12.0, 1.0, answers[:3], FIRST_FIVE[:4], None)

    def test_the_halves_products_with_the_width(self):
        # From 0 to 24 heights of a half count 2 times.
        five = FIRST_NINE[:5]
        self.gives(0.0, 24.0, 1.0, [0.0, 0.0, 0.0, 3e307, 0.0], five, -4)
        self.gives(0.0, 24.0, 1.0, [0.0, 0.0, 0.0, 0.0, 3e307], five, -4)

    def test_the_sum_of_the_halves(self):
        # S1 + S2 is too large, though less S it would not be: S is 1e308, S1 and S2 are 9e307 and more.
        self.gives(0.0, 12.0, 1.0, [5e307, 0.0, 0.0, 1.5e307, 2.5e307], FIRST_FIVE, -4)
        self.gives(0.0, 12.0, 1.0, [0.0, 0.0, 0.0, 2.5e307, 2.5e307], FIRST_FIVE, -4)

    def test_the_difference(self):
        # S is -1e308, S1 1.1e308.
        self.gives(0.0, 12.0, 1.0, [-5e307, 0.0, 0.0, 4e307, 0.0], FIRST_FIVE, -4)

    def test_15_times_near(self):
        # No difference at all, but near is too large by 15 times: behind the questions, not ahead of them.
        for near in [1.2e307, 1e308, GREATEST]:
            self.gives(0.0, 12.0, near, [1.0] * 5, FIRST_FIVE, -4)
            self.gives(0.0, 12.0, near, [1.0] * 4, FIRST_FIVE, None)
            self.gives(0.0, 12.0, near, [1.0] * 2, FIRST_FIVE[:3], None)
            self.gives(0.0, 12.0, near, [], FIRST_FIVE[:1], None)
        self.gives(0.0, 12.0, 1.19e307, [1.0] * 5, FIRST_FIVE, [12.0])

    def test_the_answer_s_own_sum(self):
        # S1 + S2 and the difference are 1.75e308, no more than 15 times near; a fifteenth more is too much.
        self.gives(0.0, 12.0, 1.19e307, [0.0, 0.0, 0.0, 2.1875e307, 2.1875e307], FIRST_FIVE, -4)
        self.gives(0.0, 12.0, 1.19e307, [0.0, 0.0, 0.0, 2e307, 2e307], FIRST_FIVE, [1.6e308 + 1.6e308 / 15])

    def test_the_sum_of_two_areas(self):
        # Each half is 6e307 at first and grows by a little less than 7.5 times near, and a fifteenth of that.
        nine = [0.0, 0.0, 0.0, 7.5e306, 7.5e306, 1.0125e307, 1.0125e307, 1.0125e307, 1.0125e307]
        half = 4 * 1.0125e307 + 7.5e306
        area = half + half + (half + half - 8 * 7.5e306) / 15
        self.assertLessEqual(half + half - 6e307, 7.5 * 5e306)
        self.assertTrue(math.isinf(area + area))
        self.gives(0.0, 24.0, 5e306, nine, FIRST_NINE, -4)
        self.gives(0.0, 24.0, 5e306, nine[:8], FIRST_NINE, None)
        nine[7:] = [7e306, 7e306]
        self.assertEqual(rough(bits(0.0), bits(24.0), bits(5e306), all_bits(nine))[-2], 9)

    def test_within_the_left_half_nothing_is_asked_at_the_right(self):
        nine = [0.0, 0.0, 0.0, 8.0, 0.0, 5e307, 6.0, 0.0, 0.0]
        self.gives(0.0, 24.0, 1.0, nine, FIRST_NINE[:7], -4)
        self.gives(0.0, 24.0, 1.0, nine[:6], FIRST_NINE[:7], None)
        nine = [0.0, 0.0, 0.0, 8.0, 0.0, 6.0, 6.0, 5e307, 0.0]
        self.gives(0.0, 24.0, 1.0, nine, FIRST_NINE, -4)


class Answers(RoughCase):
    def test_wanting_at_each_place(self):
        f = lambda x: 1.0 if x < 0.3 else x
        answers = answers_by(rough_steps(0.0, 1.0, 1e-5), f)
        self.assertGreater(len(answers), 40)
        whole = rough(bits(0.0), bits(1.0), bits(1e-5), answers)
        self.assertEqual(whole[0], len(answers))
        for left in range(len(answers)):
            given = rough(bits(0.0), bits(1.0), bits(1e-5), answers[:left])
            self.assertEqual(given, [left + 1] + whole[1:left + 2])

    def test_answers_behind_the_last_question(self):
        due = [5] + all_bits(FIRST_FIVE) + [5, bits(28.0)]
        for pattern in NOT_FINITE:
            answers = all_bits([1.0, 1.0, 1.0, 4.75, 1.0]) + [pattern]
            kept = list(answers)
            self.assertEqual(rough(bits(0.0), bits(12.0), bits(1.0), answers), due)
            self.assertEqual(answers, kept)

    def test_long_runs(self):
        f = lambda x: math.sin(40 * x) * math.exp(x / 5)
        given = self.of_function(0.0, 9.0, 1e-4, f)
        self.assertGreater(given[0], 2500)
        self.assertEqual(len(given), given[0] + 3)
        given = self.of_function(0.0, 9.0, 1e-12, f)
        self.assertEqual(given[0], 3001)
        self.assertEqual(len(given), 3002)
        source = drawn(11)
        handed = all_bits([source.uniform(-1, 1) for place in range(3000)])
        kept = list(handed)
        for near in [1.0, 0.1, 1e-2, 1e-3, FINEST]:
            given = rough(bits(-1.0), bits(5.0), bits(near), handed)
            self.assertEqual(given, rough_due(bits(-1.0), bits(5.0), bits(near), handed))
        self.assertEqual(given[0], 3001)
        self.assertEqual(handed, kept)


class GivenBack(RoughCase):
    def test_whole_numbers_in_a_list_of_its_own(self):
        for answers in [[1.0, 1.0, 1.0, 4.75, 1.0], [1.0, 1.0], []]:
            self.gives_whole_numbers(0.0, 12.0, bits(1.0), all_bits(answers))
        self.gives_whole_numbers(0.0, 12.0, bits(1.0), [NOT_FINITE[0]])
        self.gives_whole_numbers(0.0, 12.0, bits(0.0), [])

    def test_nothing_is_kept_from_one_time_to_the_next(self):
        self.gives_anew(0.0, 12.0, bits(1.0), all_bits([1.0, 1.0, 1.0, 4.75, 1.0]))
        self.gives_anew(0.0, 24.0, bits(1.0), all_bits([0.0, 0.0, 0.0, 8.0, 0.0, 6.0, 6.0, 0.0, 0.0]))

    def test_drawn_at_random(self):
        source = drawn(12)
        for turn in range(3000):
            a = some_double(source)
            b = source.choice([some_double(source), a ^ source.randrange(1, 9), a ^ (1 << 63)])
            near = some_double(source) & ~(1 << 63)
            if source.randrange(20) == 0:
                near = source.choice([near | 1 << 63, 0, 1 << 63, source.choice(NOT_FINITE)])
            height = some_double(source)
            answers = [height ^ source.getrandbits(54) for place in range(source.randrange(60))]
            if source.randrange(4) == 0:
                answers = [some_double(source) for place in answers]
            self.assertEqual(rough(a, b, near, list(answers)), rough_due(a, b, near, answers))

    def test_rough_functions_drawn_at_random(self):
        source = drawn(13)
        deep = 0
        for turn in range(300):
            a = source.uniform(-5, 5)
            b = source.uniform(-5, 5)
            scale = 10.0 ** source.randrange(-300, 300, 50)
            break_at = source.uniform(-5, 5)
            given = self.of_function(a, b, scale * 10.0 ** source.randrange(-7, 2),
                                     lambda x: scale * (x * x if x < break_at else math.cos(x)))
            deep += given[0] > 60
        self.assertGreater(deep, 50)


if __name__ == "__main__":
    unittest.main()
