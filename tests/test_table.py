import math
import unittest

from askednumbers.asking import table
from due import CallCase, FINEST, GREATEST, LEAST_NORMAL, NOT_FINITE
from due import all_bits, bits, drawn, some_double, table_due, table_steps


class TableCase(CallCase):
    call = staticmethod(table)
    call_due = staticmethod(table_due)
    steps = staticmethod(table_steps)


class Places(TableCase):
    def test_n_1(self):
        self.gives(3.0, 5.0, 1, [7.0], [3.0], [7.0])
        self.gives(3.0, 3.0, 1, [-7.0], [3.0], [-7.0])
        # a is asked as it was handed in.
        self.gives(-0.0, 5.0, 1, [7.0], [-0.0], [7.0])
        self.gives(-0.0, -5.0, 1, [7.0], [-0.0], [7.0])

    def test_n_1_reckons_nothing(self):
        for end in [GREATEST, -GREATEST, 1e308, 0.0, FINEST]:
            self.gives(-end, end, 1, [7.0], [-end], [7.0])
            self.gives(-GREATEST, end, 1, [FINEST], [-GREATEST], [FINEST])

    def test_n_2(self):
        self.gives(3.0, 5.0, 2, [7.0, 9.0], [3.0, 5.0], [7.0, 9.0])
        self.gives(5.0, 3.0, 2, [7.0, 9.0], [5.0, 3.0], [7.0, 9.0])
        self.gives(5.0, 5.0, 2, [7.0, 9.0], [5.0, 5.0], [7.0, 9.0])

    def test_larger_n(self):
        self.gives(0.0, 6.0, 4, [1.0, 2.0, 3.0, 4.0], [0.0, 2.0, 4.0, 6.0], [1.0, 2.0, 3.0, 4.0])
        self.gives(4.0, -4.0, 5, [1.0, 2.0, 3.0, 4.0, 5.0], [4.0, 2.0, 0.0, -2.0, -4.0], [1.0, 2.0, 3.0, 4.0, 5.0])
        for n in [3, 5, 7, 10, 100, 999]:
            for f in [math.sin, math.exp, lambda x: x]:
                given = self.of_function(-0.7, 2.9, n, f)
                self.assertEqual(given[0], n)
                self.assertEqual(given[n + 1], n)
                self.assertEqual(len(given), 2 * n + 2)

    def test_out_is_what_was_answered(self):
        answers = [-0.0, 0.0, FINEST, -FINEST, GREATEST, -GREATEST, LEAST_NORMAL]
        self.gives(0.0, 6.0, 7, answers, [0.0, 1.0, 2.0, 3.0, 4.0, 5.0, 6.0], answers)


class Rounding(TableCase):
    def test_places_are_reckoned_from_i_each_time(self):
        a, b, n = 0.1, 1.0, 11
        h = (b - a) / 10
        places = [a + i * h for i in range(n)]
        self.gives(a, b, n, places, places, places)
        added = [a]
        while len(added) < n:
            added.append(added[-1] + h)
        self.assertNotEqual(places, added)

    def test_the_last_place_need_not_be_b(self):
        h = (1.0 - 0.1) / 10
        self.assertNotEqual(0.1 + 10 * h, 1.0)
        given = self.of_function(0.1, 1.0, 11, lambda x: x)
        self.assertEqual(given[11], bits(0.1 + 10 * h))
        self.assertEqual(given[-1], bits(0.1 + 10 * h))

    def test_h_is_reckoned_ahead_of_its_product(self):
        a, b, n = 0.1, 0.8, 8
        h = (b - a) / 7
        places = [a + i * h for i in range(n)]
        self.gives(a, b, n, [0.0] * n, places, [0.0] * n)
        self.assertNotEqual(places, [a + i * (b - a) / 7 for i in range(n)])
        self.assertNotEqual(places, [a + i / 7 * (b - a) for i in range(n)])

    def test_the_first_place_is_a_sum_too(self):
        # 0 * h is 0 of h above 0 and -0 of h below: -0 and 0 make 0, -0 and -0 make -0.
        self.gives(-0.0, 6.0, 2, [1.0, 2.0], [0.0, 6.0], [1.0, 2.0])
        self.gives(-0.0, -6.0, 2, [1.0, 2.0], [-0.0, -6.0], [1.0, 2.0])
        self.gives(0.0, -6.0, 2, [1.0, 2.0], [0.0, -6.0], [1.0, 2.0])
        self.gives(-0.0, 6.0, 3, [1.0, 2.0, 3.0], [0.0, 3.0, 6.0], [1.0, 2.0, 3.0])

    def test_both_ends_at_0(self):
        # b - a is 0 but of -0 and 0: then it is -0, and so is h and each of its products.
        self.gives(0.0, 0.0, 3, [1.0, 2.0, 3.0], [0.0, 0.0, 0.0], [1.0, 2.0, 3.0])
        self.gives(-0.0, -0.0, 3, [1.0, 2.0, 3.0], [0.0, 0.0, 0.0], [1.0, 2.0, 3.0])
        self.gives(-0.0, 0.0, 3, [1.0, 2.0, 3.0], [0.0, 0.0, 0.0], [1.0, 2.0, 3.0])
        self.gives(0.0, -0.0, 3, [1.0, 2.0, 3.0], [0.0, 0.0, 0.0], [1.0, 2.0, 3.0])

    def test_denormals(self):
        # Half of the finest step is a tie that goes to 0: all places are a.
        self.gives(0.0, FINEST, 3, [1.0, 2.0, 3.0], [0.0, 0.0, 0.0], [1.0, 2.0, 3.0])
        self.gives(0.0, -FINEST, 3, [1.0, 2.0, 3.0], [0.0, 0.0, 0.0], [1.0, 2.0, 3.0])
        self.gives(-0.0, -FINEST, 3, [1.0, 2.0, 3.0], [-0.0, -0.0, -0.0], [1.0, 2.0, 3.0])
        # Half of 3 is a tie that goes to 2: the last place lies behind b.
        self.gives(0.0, 3 * FINEST, 3, [1.0, 2.0, 3.0], [0.0, 2 * FINEST, 4 * FINEST], [1.0, 2.0, 3.0])
        self.gives(LEAST_NORMAL, 0.0, 3, [1.0, 2.0, 3.0], [LEAST_NORMAL, LEAST_NORMAL / 2, 0.0], [1.0, 2.0, 3.0])

    def test_h_is_lost_beside_a(self):
        beside = 1 + 2.0 ** -52
        self.gives(1.0, beside, 4, [1.0] * 4, [1.0, 1.0, beside, beside], [1.0] * 4)


class Counts(TableCase):
    def test_refused(self):
        for n in [0, -1, -2, 65537, 65538, -65536, 2147483647, -2147483648]:
            self.gives(0.0, 6.0, n, [1.0, 2.0, 3.0], [], -2)
            self.gives(0.0, 6.0, n, [], [], -2)

    def test_65536(self):
        for n in [65535, 65536]:
            h = 1 / (n - 1)
            self.gives(0.0, 1.0, n, [], [0.0], None)
            self.gives(0.0, 1.0, n, [1.0, 2.0], [0.0, h, 2 * h], None)

    def test_counts_are_looked_at_first(self):
        for pattern in NOT_FINITE:
            self.assertEqual(table(pattern, bits(1.0), 0, []), [0, -2])
            self.assertEqual(table(bits(1.0), pattern, 65537, []), [0, -2])
            self.assertEqual(table(pattern, pattern, -1, [pattern]), [0, -2])
        self.gives(-GREATEST, GREATEST, 0, [], [], -2)
        self.gives(-GREATEST, GREATEST, 65537, [], [], -2)


class NotFinite(TableCase):
    def test_a_and_b(self):
        one = bits(1.0)
        for pattern in NOT_FINITE:
            for n in [1, 2, 3, 65536]:
                for end in all_bits([1.0, 0.0, GREATEST, -GREATEST]) + [pattern]:
                    self.assertEqual(table(pattern, end, n, [one, one]), [0, -4])
                    self.assertEqual(table(end, pattern, n, [one, one]), [0, -4])
                    self.assertEqual(table(end, pattern, n, []), [0, -4])

    def test_each_answer(self):
        questions = all_bits([0.0, 2.0, 4.0, 6.0])
        for pattern in NOT_FINITE:
            self.assertEqual(table(bits(3.0), bits(6.0), 1, [pattern]), [1, bits(3.0), -4])
            for place in range(4):
                answers = all_bits([1.0, 2.0, 3.0, 4.0])
                answers[place] = pattern
                due = [place + 1] + questions[:place + 1] + [-4]
                self.assertEqual(table(bits(0.0), bits(6.0), 4, answers), due)
                self.assertEqual(table(bits(0.0), bits(6.0), 4, answers[:place + 1]), due)

    def test_the_difference(self):
        for n in [2, 3, 65536]:
            self.gives(-GREATEST, GREATEST, n, [1.0, 2.0, 3.0], [], -4)
            self.gives(1e308, -1e308, n, [], [], -4)

    def test_the_greatest_difference_that_is_finite(self):
        half = GREATEST / 2
        self.gives(-half, half, 2, [1.0, 2.0], [-half, half], [1.0, 2.0])
        self.gives(0.0, -GREATEST, 2, [1.0, 2.0], [0.0, -GREATEST], [1.0, 2.0])

    def test_the_product(self):
        # h is rounded up, so that the last product lies beyond the greatest double.
        for n in range(3, 200):
            if math.isinf((n - 1) * (GREATEST / (n - 1))):
                break
        h = GREATEST / (n - 1)
        places = [i * h for i in range(n - 1)]
        self.gives(0.0, GREATEST, n, [1.0] * n, places, -4)
        self.gives(0.0, GREATEST, n, [1.0] * (n - 1), places, -4)
        self.gives(0.0, GREATEST, n, [1.0] * (n - 2), places, None)

    def test_the_sum(self):
        # No product is too large here, but the last sum is.
        a = GREATEST / 4
        for n in range(3, 2000):
            h = (GREATEST - a) / (n - 1)
            if math.isinf(a + (n - 1) * h):
                break
        self.assertTrue(math.isfinite((n - 1) * h))
        places = [a + i * h for i in range(n - 1)]
        self.gives(a, GREATEST, n, [1.0] * n, places, -4)
        self.gives(a, GREATEST, n, [1.0] * (n - 2), places, None)


class Answers(TableCase):
    def test_wanting_at_each_place(self):
        self.gives(3.0, 5.0, 1, [], [3.0], None)
        answers = all_bits([0.5, 1.5, 2.5, 3.5, 4.5, 5.5, 6.5])
        whole = table(bits(0.0), bits(3.0), 7, answers)
        self.assertEqual(len(whole), 16)
        for left in range(7):
            given = table(bits(0.0), bits(3.0), 7, answers[:left])
            self.assertEqual(given, [left + 1] + whole[1:left + 2])

    def test_answers_behind_the_last_question(self):
        for pattern in NOT_FINITE:
            self.assertEqual(table(bits(3.0), bits(5.0), 1, [bits(7.0), pattern]), [1, bits(3.0), 1, bits(7.0)])
            answers = all_bits([7.0, 9.0]) + [pattern]
            due = [2] + all_bits([3.0, 5.0]) + [2] + all_bits([7.0, 9.0])
            self.assertEqual(table(bits(3.0), bits(5.0), 2, answers), due)
            self.assertEqual(answers, all_bits([7.0, 9.0]) + [pattern])

    def test_long_runs(self):
        for n in [2999, 3000, 3001, 65536]:
            given = self.of_function(-1.0, 5.0, n, lambda x: math.cos(3 * x) + x)
            self.assertEqual(given[0], min(n, 3001))
            self.assertEqual(len(given), 2 * n + 2 if n < 3001 else 3002)
        source = drawn(17)
        handed = [some_double(source) for place in range(3000)]
        kept = list(handed)
        for a, b in [(0.0, 1.0), (1e308, 0.0), (-1e300, 1e300), (0.0, 1e-310)]:
            given = table(bits(a), bits(b), 3000, handed)
            self.assertEqual(given, table_due(bits(a), bits(b), 3000, handed))
            self.assertEqual(given[3001:], [3000] + kept)
        self.assertEqual(handed, kept)


class GivenBack(TableCase):
    def test_whole_numbers_in_a_list_of_its_own(self):
        for answers in [[1.0, 2.0, 3.0], [1.0, 2.0], []]:
            self.gives_whole_numbers(0.0, 6.0, 3, all_bits(answers))
            self.gives_whole_numbers(0.0, 6.0, 1, all_bits(answers))
        self.gives_whole_numbers(0.0, 6.0, 3, [NOT_FINITE[0]])
        self.gives_whole_numbers(0.0, 6.0, 0, [])

    def test_nothing_is_kept_from_one_time_to_the_next(self):
        self.gives_anew(0.0, 6.0, 3, all_bits([1.0, 2.0, 3.0]))
        self.gives_anew(0.0, 6.0, 1, all_bits([1.0]))

    def test_drawn_at_random(self):
        source = drawn(18)
        for turn in range(4000):
            a = some_double(source)
            b = source.choice([some_double(source), a ^ source.randrange(1, 9), a ^ (1 << 63)])
            n = source.choice([1, 2, 2, 3, 4, 7, 10, 30, 0, 65536])
            answers = [some_double(source) for place in range(source.randrange(n % 40 + 3))]
            if source.randrange(20) == 0:
                answers.insert(source.randrange(len(answers) + 1), source.choice(NOT_FINITE))
            self.assertEqual(table(a, b, n, list(answers)), table_due(a, b, n, answers))


if __name__ == "__main__":
    unittest.main()
