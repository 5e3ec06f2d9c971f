import math
import unittest

from askednumbers.asking import area
from due import CallCase, FINEST, GREATEST, NOT_FINITE
from due import all_bits, area_due, area_steps, bits, drawn, number, some_double


class AreaCase(CallCase):
    call = staticmethod(area)
    call_due = staticmethod(area_due)
    steps = staticmethod(area_steps)


class Sums(AreaCase):
    def test_n_2(self):
        self.gives(0.0, 6.0, 2, [1.0, 10.0, 100.0], [0.0, 3.0, 6.0], [141.0])
        self.gives(0.0, 2.0, 2, [0.0, 1.0, 4.0], [0.0, 1.0, 2.0], [8 / 3])

    def test_weights_4_and_2(self):
        # With h 3 each answer counts as often as its weight says.
        self.gives(0.0, 18.0, 6, [1.0, 10.0, 100.0, 1e3, 1e4, 1e5, 1e6], [0.0, 3.0, 6.0, 9.0, 12.0, 15.0, 18.0],
                   [1424241.0])
        for place, weight in enumerate([1.0, 4.0, 2.0, 4.0, 2.0, 4.0, 2.0, 4.0, 1.0]):
            answers = [0.0] * 9
            answers[place] = 1.0
            given = area(bits(0.0), bits(24.0), 8, all_bits(answers))
            self.assertEqual(number(given[-1]), weight)

    def test_larger_even_n(self):
        for n in [4, 8, 10, 100, 1000, 2998]:
            given = self.of_function(0.0, 3.0, n, lambda x: math.exp(-x * x))
            self.assertEqual(given[0], n + 1)
            self.assertEqual(len(given), n + 4)
            self.assertEqual(given[n + 2], n + 1)

    def test_b_below_a_and_b_at_a(self):
        self.gives(6.0, 0.0, 2, [1.0, 10.0, 100.0], [6.0, 3.0, 0.0], [-141.0])
        self.gives(2.0, 2.0, 2, [1.0, 10.0, 100.0], [2.0, 2.0, 2.0], [0.0])
        self.gives(2.0, 2.0, 2, [-1.0, -10.0, -100.0], [2.0, 2.0, 2.0], [-0.0])

    def test_zeros_and_their_signs(self):
        # b - a of -0 and -0 is +0, and -0 + 1 * 0 is +0: but both ends are asked as they are handed in.
        self.gives(-0.0, -0.0, 2, [1.0, 1.0, 1.0], [-0.0, 0.0, -0.0], [0.0])
        # b - a of -0 and 0 is -0, and so is h: 0 + 1 * -0 is 0 all the same, but the area is -0.
        self.gives(0.0, -0.0, 2, [1.0, 1.0, 1.0], [0.0, 0.0, -0.0], [-0.0])
        self.gives(0.0, 6.0, 2, [-0.0, -0.0, -0.0], [0.0, 3.0, 6.0], [-0.0])
        self.gives(0.0, 6.0, 2, [-0.0, 0.0, -0.0], [0.0, 3.0, 6.0], [0.0])

    def test_questions_are_rounded_step_by_step(self):
        # i * h from a, not h added again and again; the last question is b itself.
        given = self.of_function(0.1, 1.0, 10, lambda x: x)
        h = (1.0 - 0.1) / 10
        self.assertEqual(given[1:12], all_bits([0.1] + [0.1 + i * h for i in range(1, 10)] + [1.0]))
        added = 0.1
        differs = False
        for i in range(1, 10):
            added += h
            differs = differs or added != 0.1 + i * h
        self.assertTrue(differs)
        self.assertNotEqual(0.1 + 10 * h, 1.0)

    def test_order_of_the_sum(self):
        # From the left 1e16 swallows every 1; from the right, or with 1s put together first, it would not.
        self.gives(0.0, 12.0, 4, [1e16, 0.25, 0.5, 0.25, 1.0], [0.0, 3.0, 6.0, 9.0, 12.0], [1e16])
        self.gives(0.0, 12.0, 4, [1.0, 0.25, 0.5, 0.25, 1e16], [0.0, 3.0, 6.0, 9.0, 12.0], [1e16 + 4])
        self.gives(0.0, 12.0, 4, [1e16, 0.25, -5e15, 0.25, 1.0], [0.0, 3.0, 6.0, 9.0, 12.0], [2.0])
        # s * h goes before / 3.
        a, b = 0.0, 0.2
        h = b / 2
        s = 1.0 + 4 * 1.3 + 1.1
        self.assertNotEqual(s * h / 3, s * (h / 3))
        self.gives(a, b, 2, [1.0, 1.3, 1.1], [a, h, b], [s * h / 3])

    def test_the_product_is_rounded_before_it_is_added(self):
        f = lambda x: math.sin(x * 77) * 1e3
        for n in [2, 6, 50]:
            self.of_function(-1.3, 2.9, n, f)

    def test_denormals(self):
        self.gives(0.0, FINEST, 2, [1.0, 1.0, 1.0], [0.0, 0.0, FINEST], [0.0])
        self.gives(0.0, 3 * FINEST, 2, [1.0, 1.0, 1.0], [0.0, 2 * FINEST, 3 * FINEST], [4 * FINEST])
        self.gives(0.0, 6.0, 2, [FINEST, FINEST, FINEST], [0.0, 3.0, 6.0], [6 * FINEST])


class Counts(AreaCase):
    def test_refused(self):
        outside = [0, 1, -1, -2, -4, 3, 5, 7, 65535, 65537, 65538, -65536, 2147483647, 2147483646, -2147483648]
        for n in outside:
            self.gives(0.0, 6.0, n, [1.0, 10.0, 100.0], [], -2)
            self.gives(0.0, 6.0, n, [], [], -2)

    def test_65536_and_65534(self):
        for n in [65534, 65536]:
            given = area(bits(0.0), bits(1.0), n, [])
            self.assertEqual(given, [1, bits(0.0)])
            given = area(bits(0.0), bits(1.0), n, all_bits([1.0, 2.0]))
            self.assertEqual(given, [3] + all_bits([0.0, 1 / n, 2 * (1 / n)]))

    def test_counts_are_looked_at_first(self):
        for pattern in NOT_FINITE:
            self.assertEqual(area(pattern, bits(1.0), 3, []), [0, -2])
            self.assertEqual(area(bits(1.0), pattern, 65538, []), [0, -2])
            self.assertEqual(area(pattern, pattern, 0, [pattern]), [0, -2])


class NotFinite(AreaCase):
    def test_a_and_b(self):
        one = bits(1.0)
        for pattern in NOT_FINITE:
            self.assertEqual(area(pattern, one, 2, [one, one, one]), [0, -4])
            self.assertEqual(area(one, pattern, 2, [one, one, one]), [0, -4])
            self.assertEqual(area(pattern, pattern, 65536, []), [0, -4])
            # The difference from the greatest double must not pass for a finite one.
            for end in all_bits([GREATEST, -GREATEST]):
                self.assertEqual(area(pattern, end, 2, [one, one, one]), [0, -4])
                self.assertEqual(area(end, pattern, 2, [one, one, one]), [0, -4])

    def test_each_answer(self):
        questions = all_bits([0.0, 3.0, 6.0, 9.0, 12.0])
        for pattern in NOT_FINITE:
            for place in range(5):
                answers = all_bits([1.0, 2.0, 3.0, 4.0, 5.0])
                answers[place] = pattern
                due = [place + 1] + questions[:place + 1] + [-4]
                self.assertEqual(area(bits(0.0), bits(12.0), 4, answers), due)
                self.assertEqual(area(bits(0.0), bits(12.0), 4, answers[:place + 1]), due)

    def test_the_difference(self):
        self.gives(-GREATEST, GREATEST, 2, [1.0, 1.0, 1.0], [], -4)
        self.gives(1e308, -1e308, 65536, [], [], -4)

    def test_the_product_with_the_weight(self):
        # 4 of an odd place and 2 of an even one are each too large by themselves, whatever the sum would come to.
        self.gives(0.0, 12.0, 4, [-1e308, 5e307, 0.0, 0.0, 0.0], [0.0, 3.0], -4)
        self.gives(0.0, 12.0, 4, [-1e308, 0.0, 1e308, 0.0, 0.0], [0.0, 3.0, 6.0], -4)
        self.gives(0.0, 12.0, 4, [-1e308, 0.0, 5e307, 0.0, 0.0], [0.0, 3.0, 6.0, 9.0, 12.0], [0.0])

    def test_the_sum(self):
        self.gives(0.0, 12.0, 4, [1e308, 3e307, -5e307, 0.0, 0.0], [0.0, 3.0], -4)
        self.gives(0.0, 12.0, 4, [1e308, 0.0, 5e307, -4e307, 0.0], [0.0, 3.0, 6.0], -4)
        self.gives(0.0, 12.0, 4, [1e308, 0.0, 0.0, 0.0, 1e308], [0.0, 3.0, 6.0, 9.0, 12.0], -4)

    def test_the_last_product(self):
        # The sum is finite, and so would be a third of the product: the product is not.
        self.gives(0.0, 6.0, 2, [1e308, 0.0, 0.0], [0.0, 3.0, 6.0], -4)
        self.gives(0.0, 2.0, 2, [1e308, 0.0, 0.0], [0.0, 1.0, 2.0], [1e308 / 3])
        self.gives(0.0, 4.0, 2, [1e308, 0.0, -1e307], [0.0, 2.0, 4.0], -4)

    def test_wanting_goes_before_what_is_reckoned_later(self):
        self.gives(0.0, 12.0, 4, [1e308, 3e307], [0.0, 3.0], -4)
        self.gives(0.0, 12.0, 4, [1e308], [0.0, 3.0], None)


class Answers(AreaCase):
    def test_wanting_at_each_place(self):
        answers = all_bits([0.5, 1.5, 2.5, 3.5, 4.5, 5.5, 6.5])
        whole = area(bits(0.0), bits(3.0), 6, answers)
        self.assertEqual(len(whole), 10)
        for left in range(7):
            given = area(bits(0.0), bits(3.0), 6, answers[:left])
            self.assertEqual(given, [left + 1] + whole[1:left + 2])

    def test_answers_behind_the_last_question(self):
        due = [3] + all_bits([0.0, 3.0, 6.0]) + [3, bits(141.0)]
        for pattern in NOT_FINITE:
            answers = all_bits([1.0, 10.0, 100.0]) + [pattern]
            self.assertEqual(area(bits(0.0), bits(6.0), 2, answers), due)
            self.assertEqual(answers, all_bits([1.0, 10.0, 100.0]) + [pattern])

    def test_long_runs(self):
        f = lambda x: math.cos(3 * x) + x
        for n in [2996, 2998, 3000, 3002, 65536]:
            given = self.of_function(-1.0, 5.0, n, f)
            self.assertEqual(given[0], min(n + 1, 3001))
            self.assertEqual(len(given), n + 4 if n < 3000 else 3002)
        handed = all_bits([1.0] * 3000)
        given = area(bits(0.0), bits(1.0), 2998, handed)
        self.assertEqual(given, area_due(bits(0.0), bits(1.0), 2998, handed))
        self.assertEqual(handed, all_bits([1.0] * 3000))


class GivenBack(AreaCase):
    def test_whole_numbers_in_a_list_of_its_own(self):
        for answers in [[1.0, 10.0, 100.0], [1.0, 10.0], []]:
            self.gives_whole_numbers(0.0, 6.0, 2, all_bits(answers))
        self.gives_whole_numbers(0.0, 6.0, 2, [NOT_FINITE[0]])
        self.gives_whole_numbers(0.0, 6.0, 1, [])

    def test_nothing_is_kept_from_one_time_to_the_next(self):
        self.gives_anew(0.0, 6.0, 2, all_bits([1.0, 10.0, 100.0]))

    def test_drawn_at_random(self):
        source = drawn(4)
        for turn in range(4000):
            a = some_double(source)
            b = source.choice([some_double(source), a ^ source.randrange(1, 9), a ^ (1 << 63)])
            n = source.choice([2, 2, 4, 6, 8, 10, 30, 3, 0, 65536])
            near = some_double(source)
            answers = [near ^ source.getrandbits(54) for place in range(source.randrange(n % 40 + 3))]
            if source.randrange(4) == 0:
                answers = [some_double(source) for place in answers]
            self.assertEqual(area(a, b, n, list(answers)), area_due(a, b, n, answers))


if __name__ == "__main__":
    unittest.main()
