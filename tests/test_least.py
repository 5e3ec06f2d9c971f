import math
import unittest

from askednumbers.asking import least
from due import CallCase, FINEST, GREATEST, NOT_FINITE
from due import all_bits, answers_by, bits, drawn, least_due, least_steps, number, some_double

C = 0.6180339887498949


class LeastCase(CallCase):
    call = staticmethod(least)
    call_due = staticmethod(least_due)
    steps = staticmethod(least_steps)


class FirstQuestions(LeastCase):
    def test_c(self):
        self.assertEqual(bits(C), 0x3FE3C6EF372FE950)

    def test_x_and_y(self):
        self.gives(0.0, 1.0, 0, [5.0, 6.0], [1 - C, C], [0.0, 1.0])
        # Written out once, so that nothing hangs on c's own value: with b - a a power of 2, c is scaled only.
        self.assertEqual(least(bits(0.0), bits(1.0), 0, [])[1], 0x3FD8722191A02D60)
        self.assertEqual(least(bits(0.0), bits(1.0), 0, [0])[2], 0x3FE3C6EF372FE950)
        self.gives(1.0, 5.0, 0, [5.0, 6.0], [5 - C * 4, 1 + C * 4], [1.0, 5.0])

    def test_the_product_is_rounded_ahead_of_the_sum(self):
        differs = 0
        source = drawn(6)
        for turn in range(200):
            a = source.uniform(-3, 3)
            b = source.uniform(-3, 3)
            x = b - C * (b - a)
            y = a + C * (b - a)
            self.gives(a, b, 0, [1.0, 2.0], [x, y], [a, b])
            differs += x != a + (1 - C) * (b - a) or y != b - (1 - C) * (b - a)
        self.assertGreater(differs, 20)

    def test_b_below_a_and_b_at_a(self):
        self.gives(5.0, 1.0, 0, [5.0, 6.0], [1 + C * 4, 5 - C * 4], [5.0, 1.0])
        self.gives(2.0, 2.0, 1, [5.0, 6.0, 7.0], [2.0, 2.0, 2.0], [2.0, 2.0])

    def test_zeros_and_their_signs(self):
        # b - a is +0 of alike zeros, and -0 of -0 and +0: x and y come to zeros of their own.
        self.gives(-0.0, -0.0, 0, [1.0, 2.0], [-0.0, 0.0], [-0.0, -0.0])
        self.gives(0.0, -0.0, 0, [1.0, 2.0], [0.0, 0.0], [0.0, -0.0])
        self.gives(-0.0, 0.0, 0, [1.0, 2.0], [0.0, 0.0], [-0.0, 0.0])
        self.gives(-0.0, -0.0, 1, [1.0, 2.0, 3.0], [-0.0, 0.0, 0.0], [-0.0, 0.0])

    def test_denormals(self):
        self.gives(0.0, FINEST, 0, [1.0, 2.0], [0.0, FINEST], [0.0, FINEST])
        self.gives(0.0, 2 * FINEST, 0, [1.0, 2.0], [FINEST, FINEST], [0.0, 2 * FINEST])
        self.gives(-2 * FINEST, 6 * FINEST, 1, [1.0, 2.0, 3.0], [FINEST, 3 * FINEST, 0.0], [-2 * FINEST, 3 * FINEST])


class Turns(LeastCase):
    def test_f_of_x_is_less(self):
        y = C * 8
        x = 8 - y
        self.gives(0.0, 8.0, 1, [1.0, 2.0, 0.0], [x, y, y - C * y], [0.0, y])

    def test_f_of_x_is_more(self):
        y = C * 8
        x = 8 - y
        self.gives(0.0, 8.0, 1, [2.0, 1.0, 0.0], [x, y, x + C * (8 - x)], [x, 8.0])

    def test_both_are_the_same_number(self):
        y = C * 8
        x = 8 - y
        for at_x, at_y in [(1.0, 1.0), (-3.0, -3.0), (0.0, 0.0), (-0.0, -0.0), (0.0, -0.0), (-0.0, 0.0),
                           (FINEST, FINEST), (-GREATEST, -GREATEST)]:
            self.gives(0.0, 8.0, 1, [at_x, at_y, 0.0], [x, y, x + C * (8 - x)], [x, 8.0])

    def test_how_answers_are_compared(self):
        y = C * 8
        x = 8 - y
        rising = [-GREATEST, -2.0, -1.0, -FINEST, -0.0, FINEST, 2 * FINEST, 1.0, 2.0, GREATEST]
        for place, low in enumerate(rising):
            for high in rising[place + 1:]:
                self.gives(0.0, 8.0, 1, [low, high, 0.0], [x, y, y - C * y], [0.0, y])
                self.gives(0.0, 8.0, 1, [high, low, 0.0], [x, y, x + C * (8 - x)], [x, 8.0])

    def test_what_was_answered_goes_along(self):
        y = C * 8
        x = 8 - y
        # After 1 and 2, f(y) is 1: 1.5 is not less than it, though it is less than 2.
        left = y - C * y
        self.gives(0.0, 8.0, 2, [1.0, 2.0, 1.5, 9.0], [x, y, left, left + C * (y - left)], [left, y])
        self.gives(0.0, 8.0, 2, [1.0, 2.0, 0.5, 9.0], [x, y, left, x - C * x], [0.0, x])
        # After 2 and 1, f(x) is 1: it is less than 1.5, though 2 is not.
        right = x + C * (8 - x)
        self.gives(0.0, 8.0, 2, [2.0, 1.0, 1.5, 9.0], [x, y, right, right - C * (right - x)], [x, right])
        self.gives(0.0, 8.0, 2, [2.0, 1.0, 0.5, 9.0], [x, y, right, y + C * (8 - y)], [y, 8.0])

    def test_both_ways_one_after_another(self):
        # Each new answer is more than all before it, so that it goes left, right, left, right.
        y = C * 8
        x = 8 - y
        x1 = y - C * (y - 0)
        y1 = x1 + C * (y - x1)
        x2 = y1 - C * (y1 - x1)
        y2 = x2 + C * (y1 - x2)
        self.gives(0.0, 8.0, 4, [1.0, 2.0, 3.0, 4.0, 5.0, 6.0], [x, y, x1, y1, x2, y2], [x2, y1])
        f = lambda x: (x - 2.5) * (x - 2.5)
        given = self.of_function(0.0, 8.0, 60, f)
        self.assertEqual(given[0], 62)
        self.assertEqual(given[63], 62)
        self.assertAlmostEqual(number(given[-2]), 2.5, 6)
        self.assertAlmostEqual(number(given[-1]), 2.5, 6)

    def test_one_question_a_turn(self):
        f = lambda x: math.cos(x) + x / 7
        for most in list(range(80)) + [500, 2998]:
            given = self.of_function(-1.0, 6.0, most, f)
            self.assertEqual(given[0], most + 2)
            self.assertEqual(len(given), most + 6)
            self.assertEqual(given[most + 3], most + 2)

    def test_it_does_not_end_before_most(self):
        # Long since nothing moves any more, but the questions go on.
        self.gives(2.0, 2.0, 9, [1.0] * 11, [2.0] * 11, [2.0, 2.0])

    def test_the_same_question_answered_otherwise(self):
        self.gives(2.0, 2.0, 3, [1.0, 2.0, 0.0, 5.0, 3.0], [2.0] * 5, [2.0, 2.0])


class Counts(LeastCase):
    def test_most_0(self):
        self.gives(0.0, 1.0, 0, [5.0, 6.0, 7.0], [1 - C, C], [0.0, 1.0])
        self.gives(0.0, 1.0, 0, [5.0], [1 - C, C], None)

    def test_most_4000(self):
        y = C * 8
        x = 8 - y
        self.gives(0.0, 8.0, 4000, [1.0, 2.0], [x, y, y - C * y], None)

    def test_most_outside(self):
        for most in [-1, 4001, -2, 5000, -2147483648, 2147483647]:
            self.gives(0.0, 8.0, most, [1.0, 2.0, 0.0], [], -2)
            self.gives(0.0, 8.0, most, [], [], -2)

    def test_counts_are_looked_at_first(self):
        for pattern in NOT_FINITE:
            self.assertEqual(least(pattern, bits(1.0), 4001, []), [0, -2])
            self.assertEqual(least(bits(1.0), pattern, -1, []), [0, -2])
            self.assertEqual(least(pattern, pattern, -1, [pattern]), [0, -2])
        self.gives(-GREATEST, GREATEST, -1, [], [], -2)


class NotFinite(LeastCase):
    def test_a_and_b(self):
        one = bits(1.0)
        for pattern in NOT_FINITE:
            self.assertEqual(least(pattern, one, 5, [one, one]), [0, -4])
            self.assertEqual(least(one, pattern, 5, [one, one]), [0, -4])
            self.assertEqual(least(pattern, pattern, 0, []), [0, -4])
            for end in all_bits([GREATEST, -GREATEST]):
                self.assertEqual(least(pattern, end, 0, [one, one]), [0, -4])
                self.assertEqual(least(end, pattern, 0, [one, one]), [0, -4])

    def test_each_answer(self):
        whole = all_bits([5.0, 4.0, 3.0, 6.0, 1.0, 2.0])
        questions = least(bits(0.0), bits(8.0), 4, whole)[1:7]
        for pattern in NOT_FINITE:
            for place in range(6):
                answers = list(whole)
                answers[place] = pattern
                due = [place + 1] + questions[:place + 1] + [-4]
                self.assertEqual(least(bits(0.0), bits(8.0), 4, answers), due)
                self.assertEqual(least(bits(0.0), bits(8.0), 4, answers[:place + 1]), due)

    def test_the_difference(self):
        # x is reckoned ahead of all questions, so most 0 is no way round it.
        for most in [0, 1, 4000]:
            self.gives(-GREATEST, GREATEST, most, [1.0, 2.0, 3.0], [], -4)
            self.gives(1e308, -1e308, most, [], [], -4)

    def test_the_greatest_difference_that_is_finite(self):
        half = GREATEST / 2
        part = C * GREATEST
        self.gives(-half, half, 0, [1.0, 2.0], [half - part, part - half], [-half, half])
        self.gives(0.0, GREATEST, 0, [1.0, 2.0], [GREATEST - part, part], [0.0, GREATEST])


class Answers(LeastCase):
    def test_wanting_at_each_place(self):
        f = lambda x: (x - 1) * (x - 1) * (x + 3)
        answers = answers_by(least_steps(0.0, 3.0, 50), f)
        whole = least(bits(0.0), bits(3.0), 50, answers)
        self.assertEqual(len(answers), 52)
        for left in range(len(answers)):
            given = least(bits(0.0), bits(3.0), 50, answers[:left])
            self.assertEqual(given, [left + 1] + whole[1:left + 2])

    def test_answers_behind_the_last_question(self):
        for pattern in NOT_FINITE:
            answers = all_bits([5.0, 6.0]) + [pattern]
            due = [2] + all_bits([1 - C, C]) + [2] + all_bits([0.0, 1.0])
            self.assertEqual(least(bits(0.0), bits(1.0), 0, answers), due)
            self.assertEqual(answers, all_bits([5.0, 6.0]) + [pattern])

    def test_long_runs(self):
        f = lambda x: abs(x - 0.7)
        for most in [2997, 2998, 2999, 4000]:
            given = self.of_function(-1e300, 1e280, most, f)
            self.assertEqual(given[0], min(most + 2, 3001))
            self.assertEqual(len(given), most + 6 if most < 2999 else 3002)
        source = drawn(7)
        handed = [some_double(source) for place in range(3000)]
        kept = list(handed)
        for a, b in [(0.0, 1.0), (GREATEST, 0.0), (-1e300, 1e300), (0.0, 1e-310)]:
            given = least(bits(a), bits(b), 2998, handed)
            self.assertEqual(given, least_due(bits(a), bits(b), 2998, handed))
            self.assertEqual(len(given), 3004)
        self.assertEqual(handed, kept)


class GivenBack(LeastCase):
    def test_whole_numbers_in_a_list_of_its_own(self):
        for answers in [[1.0, 2.0, 0.0], [1.0, 2.0], []]:
            self.gives_whole_numbers(0.0, 8.0, 1, all_bits(answers))
        self.gives_whole_numbers(0.0, 8.0, 1, [NOT_FINITE[0]])
        self.gives_whole_numbers(0.0, 8.0, -1, [])

    def test_nothing_is_kept_from_one_time_to_the_next(self):
        self.gives_anew(0.0, 8.0, 2, all_bits([1.0, 2.0, 1.5, 0.0]))

    def test_drawn_at_random(self):
        source = drawn(8)
        for turn in range(3000):
            a = some_double(source)
            b = source.choice([some_double(source), a ^ source.randrange(1, 9), a ^ (1 << 63)])
            most = source.choice([0, 1, 2, 3, 20, 60, 4000, -1, 4001])
            answers = [some_double(source) for place in range(source.randrange(70))]
            if source.randrange(20) == 0:
                answers.append(source.choice(NOT_FINITE))
            self.assertEqual(least(a, b, most, list(answers)), least_due(a, b, most, answers))


if __name__ == "__main__":
    unittest.main()
