import math
import unittest

from askednumbers.asking import slope
from due import CallCase, FINEST, GREATEST, LEAST_NORMAL, NOT_FINITE
from due import all_bits, bits, drawn, number, slope_due, slope_steps, some_double


class SlopeCase(CallCase):
    call = staticmethod(slope)
    call_due = staticmethod(slope_due)
    steps = staticmethod(slope_steps)


class Slopes(SlopeCase):
    def test_h_above_0(self):
        self.gives(3.0, 1.0, [16.0, 4.0, 12.25, 6.25], [4.0, 2.0, 3.5, 2.5], [6.0])
        # Of x * x * x the wide slope is 7, the narrow one 4: together they make 3, which is exact.
        self.gives(1.0, 2.0, [27.0, -1.0, 8.0, 0.0], [3.0, -1.0, 2.0, 0.0], [3.0])

    def test_h_below_0(self):
        self.gives(3.0, -1.0, [4.0, 16.0, 6.25, 12.25], [2.0, 4.0, 2.5, 3.5], [6.0])
        self.gives(1.0, -2.0, [-1.0, 27.0, 0.0, 8.0], [-1.0, 3.0, 0.0, 2.0], [3.0])

    def test_each_answer_by_itself(self):
        questions = [6.0, -6.0, 3.0, -3.0]
        self.gives(0.0, 6.0, [36.0, 0.0, 0.0, 0.0], questions, [-1.0])
        self.gives(0.0, 6.0, [0.0, 36.0, 0.0, 0.0], questions, [1.0])
        self.gives(0.0, 6.0, [0.0, 0.0, 18.0, 0.0], questions, [4.0])
        self.gives(0.0, 6.0, [0.0, 0.0, 0.0, 18.0], questions, [-4.0])
        self.gives(0.0, 1.0, [100.0, 20.0, 7.0, 4.0], [1.0, -1.0, 0.5, -0.5], [3.0 + (3.0 - 40.0) / 3.0])

    def test_functions(self):
        for f in [math.sin, math.exp, abs, lambda x: 1e300 * x, lambda x: 1 / (x * x + 1e-9), lambda x: 7.0]:
            for x in [0.0, -0.0, 1.0, -0.3, 2.7]:
                for h in [1e-3, -1e-3, 1.0, -0.7, 1e-17, 3.3]:
                    given = self.of_function(x, h, f)
                    self.assertEqual(given[0], 4)
                    self.assertEqual(given[5], 4)
                    self.assertEqual(len(given), 7)
        given = self.of_function(0.5, 2.0 ** -10, math.sin)
        self.assertAlmostEqual(number(given[-1]), math.cos(0.5), 12)

    def test_steps_are_rounded_one_by_one(self):
        first, second, third, fourth, h = 1.3, 0.1, 0.55, 0.3, 0.3
        wide = (first - second) / (h + h)
        narrow = (third - fourth) / h
        out = narrow + (narrow - wide) / 3
        self.gives(0.0, h, [first, second, third, fourth], [h, -h, h * 0.5, -(h * 0.5)], [out])
        self.assertNotEqual(out, (4 * narrow - wide) / 3)
        self.assertNotEqual(out, narrow + (narrow / 3 - wide / 3))
        self.assertNotEqual(wide, first / (h + h) - second / (h + h))
        self.assertNotEqual(narrow, third / h - fourth / h)

    def test_h_is_lost_beside_x(self):
        self.gives(1e20, 1.0, [1.0, 2.0, 3.0, 4.0], [1e20, 1e20, 1e20, 1e20], [-1.0 + (-1.0 + 0.5) / 3])
        self.gives(1.0, FINEST, [5.0, 5.0, 5.0, 5.0], [1.0, 1.0, 1.0, 1.0], [0.0])


class SmallH(SlopeCase):
    def test_h_that_is_0(self):
        for h in [0.0, -0.0]:
            for x in [0.0, -0.0, 1.0, GREATEST, -FINEST]:
                self.gives(x, h, [1.0, 2.0, 3.0, 4.0], [], -2)
                self.gives(x, h, [], [], -2)

    def test_k_that_is_0(self):
        # Half of the finest step is a tie, and goes to 0; what is divided by is h all the same.
        answers = [FINEST, 0.0, FINEST, 0.0]
        self.gives(0.0, FINEST, answers, [FINEST, -FINEST, 0.0, 0.0], [1.0 + (1.0 - 0.5) / 3])
        self.gives(-0.0, FINEST, answers, [FINEST, -FINEST, 0.0, -0.0], [1.0 + (1.0 - 0.5) / 3])
        self.gives(0.0, -FINEST, answers, [-FINEST, FINEST, 0.0, 0.0], [-1.0 + (-1.0 + 0.5) / 3])
        self.gives(-0.0, -FINEST, answers, [-FINEST, FINEST, -0.0, 0.0], [-1.0 + (-1.0 + 0.5) / 3])

    def test_k_that_is_a_denormal(self):
        answers = [8 * FINEST, 0.0, 3 * FINEST, 0.0]
        self.gives(0.0, 2 * FINEST, answers, [2 * FINEST, -2 * FINEST, FINEST, -FINEST], [1.5 + (1.5 - 2.0) / 3])
        # Half of 3 and of 5 are ties: both go to 2.
        self.gives(0.0, 3 * FINEST, answers, [3 * FINEST, -3 * FINEST, 2 * FINEST, -2 * FINEST],
                   [1.0 + (1.0 - 8 / 6) / 3])
        self.gives(0.0, 5 * FINEST, answers, [5 * FINEST, -5 * FINEST, 2 * FINEST, -2 * FINEST],
                   [0.6 + (0.6 - 0.8) / 3])
        half = LEAST_NORMAL / 2
        self.gives(0.0, LEAST_NORMAL, [half, -half, half, half], [LEAST_NORMAL, -LEAST_NORMAL, half, -half],
                   [0.0 + (0.0 - 0.5) / 3])

    def test_twice_h_from_denormal_to_normal(self):
        below = LEAST_NORMAL - FINEST
        for h in [below, -below, LEAST_NORMAL / 2, LEAST_NORMAL / 2 - FINEST, LEAST_NORMAL]:
            given = self.given(0.0, h, all_bits([h, 0.0, h, 0.0]))
            self.assertEqual(number(given[-1]), 1.0 + (1.0 - 0.5) / 3)


class Zeros(SlopeCase):
    def test_above_0(self):
        questions = [2.0, 0.0, 1.5, 0.5]
        # A is 0 and B is -0: so is B - A, a third of it, and the sum.
        self.gives(1.0, 1.0, [0.0, 0.0, -0.0, 0.0], questions, [-0.0])
        self.gives(1.0, 1.0, [-0.0, 0.0, -0.0, 0.0], questions, [0.0])
        self.gives(1.0, 1.0, [0.0, 0.0, 0.0, 0.0], questions, [0.0])
        self.gives(1.0, 1.0, [-0.0, -0.0, -0.0, -0.0], questions, [0.0])
        self.gives(1.0, 1.0, [5.0, 5.0, -5.0, -5.0], questions, [0.0])

    def test_below_0(self):
        questions = [0.0, 2.0, 0.5, 1.5]
        # Nothing divided by h below 0 is -0.
        self.gives(1.0, -1.0, [-0.0, 0.0, 0.0, 0.0], questions, [-0.0])
        self.gives(1.0, -1.0, [0.0, 0.0, 0.0, 0.0], questions, [0.0])
        self.gives(1.0, -1.0, [-0.0, 0.0, -0.0, 0.0], questions, [0.0])
        self.gives(1.0, -1.0, [-0.0, 0.0, 5.0, 5.0], questions, [-0.0])

    def test_too_small_to_tell(self):
        questions = [8.0, -8.0, 4.0, -4.0]
        self.gives(0.0, 8.0, [FINEST, 0.0, -FINEST, 0.0], questions, [-0.0])
        self.gives(0.0, 8.0, [-FINEST, 0.0, -FINEST, 0.0], questions, [0.0])
        # B - A is a single finest step, and a third of it nothing.
        self.gives(0.0, 8.0, [0.0, 0.0, 0.0, 8 * FINEST], questions, [-FINEST])
        self.gives(0.0, 8.0, [16 * FINEST, 0.0, 0.0, 0.0], questions, [0.0])

    def test_questions_at_0(self):
        self.gives(1.0, -1.0, [1.0, 1.0, 1.0, 1.0], [0.0, 2.0, 0.5, 1.5], [0.0])
        self.gives(-0.0, 1.0, [1.0, 1.0, 1.0, 1.0], [1.0, -1.0, 0.5, -0.5], [0.0])


class NotFinite(SlopeCase):
    def test_x_and_h(self):
        answers = all_bits([1.0, 2.0, 3.0, 4.0])
        for pattern in NOT_FINITE:
            for other in all_bits([1.0, -1.0, GREATEST, -GREATEST, FINEST]) + [pattern]:
                self.assertEqual(slope(pattern, other, answers), [0, -4])
                self.assertEqual(slope(other, pattern, answers), [0, -4])
                self.assertEqual(slope(other, pattern, []), [0, -4])

    def test_it_goes_before_h_that_is_0(self):
        for pattern in NOT_FINITE:
            for zero in all_bits([0.0, -0.0]):
                self.assertEqual(slope(pattern, zero, []), [0, -4])
                self.assertEqual(slope(zero, pattern, []), [0, -4])

    def test_each_answer(self):
        questions = all_bits([2.0, 0.0, 1.5, 0.5])
        for pattern in NOT_FINITE:
            for place in range(4):
                answers = all_bits([1.0, 2.0, 3.0, 4.0])
                answers[place] = pattern
                due = [place + 1] + questions[:place + 1] + [-4]
                self.assertEqual(slope(bits(1.0), bits(1.0), answers), due)
                self.assertEqual(slope(bits(1.0), bits(1.0), answers[:place + 1]), due)

    def test_x_plus_h_is_reckoned_ahead_of_the_first_question(self):
        self.gives(GREATEST, GREATEST, [1.0, 2.0, 3.0, 4.0], [], -4)
        self.gives(-GREATEST, -GREATEST, [], [], -4)
        self.gives(1e308, 8e307, [], [], -4)

    def test_x_minus_h_is_reckoned_behind_the_first_question(self):
        self.gives(-GREATEST, GREATEST, [1.0, 2.0, 3.0, 4.0], [0.0], -4)
        self.gives(GREATEST, -GREATEST, [1.0], [0.0], -4)
        self.gives(1e308, -8e307, [1.0], [1e308 - 8e307], -4)
        self.gives(1e308, -8e307, [], [1e308 - 8e307], None)

    def test_twice_h_is_reckoned_behind_all_questions(self):
        questions = [1e308, -1e308, 5e307, -5e307]
        self.gives(0.0, 1e308, [0.0, 0.0, 0.0, 0.0], questions, -4)
        self.gives(0.0, 1e308, [0.0, 0.0, 0.0], questions, None)
        half = GREATEST / 2
        self.gives(0.0, half, [half, -half, 0.0, 0.0], [half, -half, half / 2, -half / 2], [-1 / 3])

    def test_differences_are_reckoned_behind_all_questions(self):
        questions = [1.0, -1.0, 0.5, -0.5]
        self.gives(0.0, 1.0, [1e308, -1e308, 0.0, 0.0], questions, -4)
        self.gives(0.0, 1.0, [1e308, -1e308, 0.0], questions, None)
        self.gives(0.0, 1.0, [1e308, -1e308], questions[:3], None)
        self.gives(0.0, 1.0, [0.0, 0.0, -1e308, 1e308], questions, -4)
        self.gives(0.0, 4.0, [1e308, -7e307, 0.0, 0.0], [4.0, -4.0, 2.0, -2.0], [-(1.7e308 / 8 / 3)])

    def test_quotients(self):
        h = 2.0 ** -30
        questions = [h, -h, h / 2, -h / 2]
        self.gives(0.0, h, [1e300, 0.0, 0.0, 0.0], questions, -4)
        self.gives(0.0, h, [0.0, 0.0, 0.0, 1e300], questions, -4)
        # By twice h it is just finite, by h not.
        self.gives(0.0, 0.5, [1.5e308, 0.0, 0.0, 0.0], [0.5, -0.5, 0.25, -0.25], [-(1.5e308 / 3)])
        self.gives(0.0, 0.5, [0.0, 0.0, 1.5e308, 0.0], [0.5, -0.5, 0.25, -0.25], -4)

    def test_the_difference_of_the_slopes(self):
        # B is 1.5e308 and A as much below 0: neither is too large, but B - A is.
        questions = [0.5, -0.5, 0.25, -0.25]
        self.gives(0.0, 0.5, [-1.5e308, 0.0, 7.5e307, 0.0], questions, -4)
        self.gives(0.0, 0.5, [1.5e308, 0.0, 7.5e307, 0.0], questions, [1.5e308])

    def test_the_last_sum(self):
        questions = [0.5, -0.5, 0.25, -0.25]
        self.gives(0.0, 0.5, [0.0, 0.0, 7.5e307, 0.0], questions, -4)
        self.gives(0.0, 0.5, [0.0, 0.0, 6.5e307, 0.0], questions, [1.3e308 + 1.3e308 / 3])


class Answers(SlopeCase):
    def test_wanting_at_each_place(self):
        questions = [4.0, 2.0, 3.5, 2.5]
        for left in range(4):
            self.gives(3.0, 1.0, [16.0, 4.0, 12.25, 6.25][:left], questions[:left + 1], None)

    def test_answers_behind_the_last_question(self):
        due = [4] + all_bits([4.0, 2.0, 3.5, 2.5]) + [4, bits(6.0)]
        for pattern in NOT_FINITE:
            answers = all_bits([16.0, 4.0, 12.25, 6.25]) + [pattern]
            self.assertEqual(slope(bits(3.0), bits(1.0), answers), due)
            self.assertEqual(answers, all_bits([16.0, 4.0, 12.25, 6.25]) + [pattern])

    def test_3000_answers(self):
        handed = all_bits([16.0, 4.0, 12.25, 6.25]) + NOT_FINITE * 374 + all_bits([0.5, 1.5, 2.5, 3.5])
        kept = list(handed)
        self.assertEqual(len(handed), 3000)
        due = [4] + all_bits([4.0, 2.0, 3.5, 2.5]) + [4, bits(6.0)]
        self.assertEqual(slope(bits(3.0), bits(1.0), handed), due)
        self.assertEqual(handed, kept)


class GivenBack(SlopeCase):
    def test_whole_numbers_in_a_list_of_its_own(self):
        for answers in [[16.0, 4.0, 12.25, 6.25], [16.0, 4.0], []]:
            self.gives_whole_numbers(3.0, 1.0, all_bits(answers))
        self.gives_whole_numbers(3.0, 1.0, [NOT_FINITE[0]])
        self.gives_whole_numbers(3.0, 0.0, [])

    def test_nothing_is_kept_from_one_time_to_the_next(self):
        self.gives_anew(3.0, 1.0, all_bits([16.0, 4.0, 12.25, 6.25]))

    def test_drawn_at_random(self):
        source = drawn(14)
        for turn in range(6000):
            x = some_double(source)
            h = source.choice([some_double(source), x ^ source.randrange(1, 9), x ^ (1 << 63)])
            near = some_double(source)
            answers = [near ^ source.getrandbits(54) for place in range(4)]
            if source.randrange(3) == 0:
                answers = [some_double(source) for place in range(source.randrange(6))]
            if source.randrange(20) == 0:
                answers.insert(source.randrange(len(answers) + 1), source.choice(NOT_FINITE))
            self.assertEqual(slope(x, h, list(answers)), slope_due(x, h, answers))


if __name__ == "__main__":
    unittest.main()
