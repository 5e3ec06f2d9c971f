import math
import unittest

from askednumbers.asking import walk
from due import CallCase, FINEST, GREATEST, LEAST_NORMAL, NOT_FINITE
from due import all_bits, bits, drawn, flat, number, some_double, walk_due, walk_steps


class WalkCase(CallCase):
    call = staticmethod(walk)
    call_due = staticmethod(walk_due)
    steps = staticmethod(walk_steps)


class Steps(WalkCase):
    def test_n_0(self):
        # No question is asked: out is y alone, as it was handed in.
        for y in [0.0, -0.0, 1.0, -GREATEST, FINEST]:
            for h in [0.0, -0.0, 1.0, GREATEST, -GREATEST, FINEST, -LEAST_NORMAL]:
                for t in [0.0, GREATEST, -GREATEST]:
                    self.gives(t, y, h, 0, [], [], [y])
                    self.gives(t, y, h, 0, [1.0, 2.0], [], [y])

    def test_n_1(self):
        # With h 6, p is 3 and q is 1: each slope counts as often as its weight says.
        self.gives(0.0, 0.0, 6.0, 1, [1.0, 10.0, 100.0, 1000.0],
                   [(0.0, 0.0), (3.0, 3.0), (3.0, 30.0), (6.0, 600.0)], [0.0, 1221.0])
        self.gives(2.0, 5.0, -6.0, 1, [1.0, 10.0, 100.0, 1000.0],
                   [(2.0, 5.0), (-1.0, 2.0), (-1.0, -25.0), (-4.0, -595.0)], [5.0, -1216.0])

    def test_n_2(self):
        first = [(0.0, 0.0), (3.0, 3.0), (3.0, 30.0), (6.0, 600.0)]
        second = [(6.0, 1221.0), (9.0, 1224.0), (9.0, 1227.0), (12.0, 1239.0)]
        self.gives(0.0, 0.0, 6.0, 2, [1.0, 10.0, 100.0, 1000.0, 1.0, 2.0, 3.0, 4.0], first + second,
                   [0.0, 1221.0, 1236.0])

    def test_functions(self):
        for g in [lambda u, y: y, lambda u, y: math.cos(u), lambda u, y: u * y, lambda u, y: 1 - y * y]:
            for n in [1, 2, 3, 10, 33]:
                for t, y, h in [(0.0, 1.0, 0.1), (-0.3, 0.7, 0.01), (2.0, -0.5, -0.05), (1e5, 3.0, 1e-7)]:
                    given = self.of_function(t, y, h, n, g)
                    self.assertEqual(given[0], 4 * n)
                    self.assertEqual(given[8 * n + 1], 4 * n)
                    self.assertEqual(len(given), 1 + 8 * n + 1 + n + 1)
                    self.assertEqual(given[8 * n + 2], bits(y))
        given = self.of_function(0.0, 1.0, 2.0 ** -6, 64, lambda u, y: y)
        self.assertAlmostEqual(number(given[-1]), math.e, 8)

    def test_h_that_is_0(self):
        # Nothing forbids it: all four questions stand at one place, and y doesn't move.
        self.gives(2.0, 5.0, 0.0, 2, [1.0] * 8, [(2.0, 5.0)] * 8, [5.0, 5.0, 5.0])
        self.gives(2.0, 5.0, -0.0, 1, [1.0] * 4, [(2.0, 5.0)] * 4, [5.0, 5.0])

    def test_out_holds_each_y(self):
        answers = [1.0, 1.0, 1.0, 1.0] * 5
        given = self.given(0.0, 10.0, 6.0, 5, all_bits(answers))
        self.assertEqual(given[-6:], all_bits([10.0, 16.0, 22.0, 28.0, 34.0, 40.0]))
        self.assertEqual(given[-7], 20)


class Rounding(WalkCase):
    def test_u_is_reckoned_from_i_each_time(self):
        t, h = 0.0, 0.1
        given = self.of_function(t, 0.0, h, 12, lambda u, y: 0.0)
        starts = [number(one) for one in given[1:97:8]]
        self.assertEqual(starts, [t + i * h for i in range(12)])
        added = [t]
        while len(added) < 12:
            added.append(added[-1] + h)
        self.assertNotEqual(starts, added)

    def test_places_are_reckoned_from_u(self):
        t, h = 0.3, 0.1
        given = self.of_function(t, 0.0, h, 30, lambda u, y: 0.0)
        places = [number(one) for one in given[1:241:2]]
        starts = [t + i * h for i in range(30)]
        self.assertEqual(places, flat([(u, u + h * 0.5, u + h * 0.5, u + h) for u in starts]))
        # Neither the next step's u, nor a place told from t, will do.
        self.assertNotEqual(places[3::4], [t + (i + 1) * h for i in range(30)])
        self.assertNotEqual(places[1::4], [t + (i + 0.5) * h for i in range(30)])

    def test_the_first_u_is_a_sum_too(self):
        # -0 + 0 * h is 0 of h above 0, and -0 of h below.
        zero = [0.0, 0.0, 0.0, 0.0]
        self.gives(-0.0, 1.0, 2.0, 1, zero, [(0.0, 1.0), (1.0, 1.0), (1.0, 1.0), (2.0, 1.0)], [1.0, 1.0])
        self.gives(-0.0, 1.0, -2.0, 1, zero, [(-0.0, 1.0), (-1.0, 1.0), (-1.0, 1.0), (-2.0, 1.0)], [1.0, 1.0])
        self.gives(-0.0, 1.0, 0.0, 1, zero, [(0.0, 1.0)] * 4, [1.0, 1.0])
        self.gives(-0.0, 1.0, -0.0, 1, zero, [(-0.0, 1.0)] * 4, [1.0, 1.0])

    def test_order_of_the_sum(self):
        places = [0.0, 3.0, 3.0, 6.0]
        # From the left 1e16 swallows every 1; put together first, these would count.
        self.gives(0.0, 0.0, 6.0, 1, [1e16, 0.5, 0.5, 1.0],
                   list(zip(places, [0.0, 3e16, 1.5, 3.0])), [0.0, 1e16])
        self.gives(0.0, 0.0, 6.0, 1, [1.0, 0.5, 0.5, 1e16],
                   list(zip(places, [0.0, 3.0, 1.5, 3.0])), [0.0, 1e16 + 4])
        self.gives(0.0, 0.0, 6.0, 1, [0.5, 5e15, -5e15, 0.5],
                   list(zip(places, [0.0, 1.5, 1.5e16, -3e16])), [0.0, 0.5])

    def test_q_is_reckoned_ahead_of_its_product(self):
        h, k, last = 0.1, 0.7, 0.5
        total = k + 2 * k + 2 * k + last
        self.assertNotEqual(h / 6 * total, h * total / 6)
        self.assertNotEqual(h / 6 * total, h * (total / 6))
        self.gives(0.0, 0.0, h, 1, [k, k, k, last],
                   [(0.0, 0.0), (h / 2, h / 2 * k), (h / 2, h / 2 * k), (h, h * k)], [0.0, h / 6 * total])

    def test_products_are_rounded_before_they_are_added(self):
        g = lambda u, y: math.sin(u * 77 + y) * 1e3
        for n in [1, 6, 50]:
            self.of_function(-1.3, 2.9, 0.037, n, g)

    def test_signs_of_y_that_is_0(self):
        places = [1.0, 2.0, 2.0, 3.0]
        self.gives(1.0, -0.0, 2.0, 1, [0.0] * 4, list(zip(places, [-0.0, 0.0, 0.0, 0.0])), [-0.0, 0.0])
        self.gives(1.0, -0.0, 2.0, 1, [-0.0] * 4, list(zip(places, [-0.0, -0.0, -0.0, -0.0])), [-0.0, -0.0])
        self.gives(1.0, -0.0, -2.0, 1, [0.0] * 4, list(zip([1.0, 0.0, 0.0, -1.0], [-0.0] * 4)), [-0.0, -0.0])

    def test_denormal_h(self):
        # p of the finest h is a tie and goes to 0, q is 0 by far: only the last question sees h.
        self.gives(0.0, 0.0, FINEST, 1, [4.0] * 4, [(0.0, 0.0)] * 3 + [(FINEST, 4 * FINEST)], [0.0, 0.0])
        self.gives(0.0, 0.0, FINEST, 2, [4.0] * 8,
                   [(0.0, 0.0)] * 3 + [(FINEST, 4 * FINEST)] + [(FINEST, 0.0)] * 3 + [(2 * FINEST, 4 * FINEST)],
                   [0.0, 0.0, 0.0])
        # Half of 3 is a tie that goes to 2, a sixth of it one that goes to 0, of 9 one that goes to 2.
        self.gives(0.0, 0.0, 3 * FINEST, 1, [1.0] * 4,
                   [(0.0, 0.0), (2 * FINEST, 2 * FINEST), (2 * FINEST, 2 * FINEST), (3 * FINEST, 3 * FINEST)],
                   [0.0, 0.0])
        self.gives(0.0, 0.0, 9 * FINEST, 1, [1.0] * 4,
                   [(0.0, 0.0), (4 * FINEST, 4 * FINEST), (4 * FINEST, 4 * FINEST), (9 * FINEST, 9 * FINEST)],
                   [0.0, 12 * FINEST])


class Counts(WalkCase):
    def test_refused(self):
        for n in [-1, -2, 65537, 65540, -65536, 2147483647, -2147483648]:
            self.gives(0.0, 1.0, 6.0, n, [1.0, 2.0, 3.0, 4.0], [], -2)
            self.gives(0.0, 1.0, 6.0, n, [], [], -2)

    def test_65536(self):
        for n in [65535, 65536]:
            self.gives(0.0, 1.0, 6.0, n, [], [(0.0, 1.0)], None)
            self.gives(0.0, 1.0, 6.0, n, [0.0] * 4, [(0.0, 1.0), (3.0, 1.0), (3.0, 1.0), (6.0, 1.0), (6.0, 1.0)], None)

    def test_counts_are_looked_at_first(self):
        one = bits(1.0)
        for pattern in NOT_FINITE:
            self.assertEqual(walk(pattern, one, one, -1, []), [0, -2])
            self.assertEqual(walk(one, pattern, one, 65537, []), [0, -2])
            self.assertEqual(walk(one, one, pattern, -1, []), [0, -2])
            self.assertEqual(walk(pattern, pattern, pattern, 65537, [pattern]), [0, -2])


class NotFinite(WalkCase):
    def test_t_y_and_h(self):
        one = bits(1.0)
        for pattern in NOT_FINITE:
            for n in [0, 1, 65536]:
                for other in all_bits([1.0, 0.0, GREATEST, -GREATEST]):
                    self.assertEqual(walk(pattern, other, one, n, [one] * 4), [0, -4])
                    self.assertEqual(walk(pattern, one, other, n, [one] * 4), [0, -4])
                    self.assertEqual(walk(other, pattern, one, n, [one] * 4), [0, -4])
                    self.assertEqual(walk(one, pattern, other, n, []), [0, -4])
                    self.assertEqual(walk(other, one, pattern, n, []), [0, -4])
                    self.assertEqual(walk(one, other, pattern, n, [one] * 4), [0, -4])

    def test_each_answer(self):
        whole = all_bits([1.0, 10.0, 100.0, 1000.0, 1.0, 2.0, 3.0, 4.0])
        questions = walk(bits(0.0), bits(0.0), bits(6.0), 2, whole)[1:17]
        for pattern in NOT_FINITE:
            for place in range(8):
                answers = list(whole)
                answers[place] = pattern
                due = [place + 1] + questions[:2 * place + 2] + [-4]
                self.assertEqual(walk(bits(0.0), bits(0.0), bits(6.0), 2, answers), due)
                self.assertEqual(walk(bits(0.0), bits(0.0), bits(6.0), 2, answers[:place + 1]), due)

    def test_u(self):
        # i * h is too large by itself, whatever t would make of it.
        questions = [(u, 0.0) for u in [-1e308, -5e307, -5e307, 0.0, 0.0, 5e307, 5e307, 1e308]]
        self.gives(-1e308, 0.0, 1e308, 3, [0.0] * 12, questions, -4)
        self.gives(-1e308, 0.0, 1e308, 2, [0.0] * 12, questions, [0.0, 0.0, 0.0])
        # The sum is too large, the product is not: u + h of the step before goes first.
        self.gives(1e308, 0.0, 5e307, 3, [0.0] * 12,
                   [(u, 0.0) for u in [1e308, 1.25e308, 1.25e308, 1.5e308, 1.5e308, 1.75e308, 1.75e308]], -4)

    def test_u_plus_p_and_u_plus_h(self):
        self.gives(GREATEST, 0.0, GREATEST, 1, [0.0] * 4, [(GREATEST, 0.0)], -4)
        self.gives(GREATEST, 0.0, GREATEST, 1, [], [(GREATEST, 0.0)], None)
        self.gives(-1e308, 0.0, -1e308, 1, [0.0] * 4, [(-1e308, 0.0), (-1.5e308, 0.0), (-1.5e308, 0.0)], -4)
        self.gives(-1e308, 0.0, -1e308, 1, [0.0] * 2, [(-1e308, 0.0), (-1.5e308, 0.0), (-1.5e308, 0.0)], None)

    def test_the_product_of_p_or_h_and_a_slope(self):
        self.gives(0.0, -1e308, 4.0, 1, [1e308], [(0.0, -1e308)], -4)
        self.gives(0.0, -1e308, 4.0, 1, [0.0, 1e308], [(0.0, -1e308), (2.0, -1e308)], -4)
        self.gives(0.0, -1e308, 2.0, 1, [0.0, 0.0, 1e308], [(0.0, -1e308), (1.0, -1e308), (1.0, -1e308)], -4)
        self.gives(0.0, -1e308, 1.0, 1, [0.0, 0.0, 1e308],
                   [(0.0, -1e308), (0.5, -1e308), (0.5, -1e308), (1.0, 0.0)], None)

    def test_y_plus_that_product(self):
        self.gives(0.0, 1e308, 2.0, 1, [1e308], [(0.0, 1e308)], -4)
        self.gives(0.0, 1e308, 2.0, 1, [0.0, 1e308], [(0.0, 1e308), (1.0, 1e308)], -4)
        self.gives(0.0, 1e308, 1.0, 1, [0.0, 0.0, 1e308], [(0.0, 1e308), (0.5, 1e308), (0.5, 1e308)], -4)

    def test_twice_a_slope(self):
        h = 2.0 ** -10
        half = h / 2
        second = 1e308 * half
        last = 1e308 * h
        self.gives(0.0, 0.0, h, 1, [-1e308, 1e308, 0.0, 0.0],
                   [(0.0, 0.0), (half, -second), (half, second), (h, 0.0)], -4)
        self.gives(0.0, 0.0, h, 1, [-1e308, 0.0, 1e308, 0.0],
                   [(0.0, 0.0), (half, -second), (half, 0.0), (h, last)], -4)
        self.gives(0.0, 0.0, h, 1, [-1e308, 0.0, 1e308],
                   [(0.0, 0.0), (half, -second), (half, 0.0), (h, last)], None)
        self.gives(0.0, 0.0, h, 1, [0.0, 0.0, 0.0, 1e308], [(0.0, 0.0), (half, 0.0), (half, 0.0), (h, 0.0)],
                   [0.0, h / 6 * 1e308])

    def test_the_sum(self):
        for answers in [[1e308, 5e307, 0.0, 0.0], [1e308, 0.0, 5e307, -1e308], [1e308, 0.0, 0.0, 1e308],
                        [0.0, 8e307, 8e307, -1e308]]:
            given = self.given(0.0, 0.0, 1e-300, 1, all_bits(answers))
            self.assertEqual(given[0], 4)
            self.assertEqual(given[9:], [-4])
        given = self.given(0.0, 0.0, 1e-300, 1, all_bits([-1e308, 5e307, 5e307, 5e307]))
        self.assertEqual(given[9], 4)
        # Where q is 0, the sum must be finite all the same.
        self.gives(0.0, 0.0, FINEST, 1, [1e308, 0.0, 0.0, 1e308], [(0.0, 0.0)] * 3 + [(FINEST, 0.0)], -4)

    def test_the_product_with_q(self):
        self.gives(0.0, -1e308, 12.0, 1, [0.0, 0.0, 0.0, 1e308],
                   [(0.0, -1e308), (6.0, -1e308), (6.0, -1e308), (12.0, -1e308)], -4)
        self.gives(0.0, -1e308, 6.0, 1, [0.0, 0.0, 0.0, 1e308],
                   [(0.0, -1e308), (3.0, -1e308), (3.0, -1e308), (6.0, -1e308)], [-1e308, 0.0])

    def test_the_next_y(self):
        self.gives(0.0, 1e308, 6.0, 1, [0.0, 0.0, 0.0, 1e308],
                   [(0.0, 1e308), (3.0, 1e308), (3.0, 1e308), (6.0, 1e308)], -4)
        # In the second step: what the first one came to isn't told any more.
        self.gives(0.0, 0.0, 6.0, 2, [0.0, 0.0, 0.0, 1e308, 0.0, 0.0, 0.0, 1e308],
                   list(zip([0.0, 3.0, 3.0, 6.0, 6.0, 9.0, 9.0, 12.0], [0.0] * 4 + [1e308] * 4)), -4)


class Answers(WalkCase):
    def test_wanting_at_each_place(self):
        answers = all_bits([0.5, 1.5, -2.5, 3.5, 4.5, 5.5, -6.5, 7.5, 8.5, 9.5, 0.25, 0.75])
        whole = walk(bits(0.0), bits(1.0), bits(0.3), 3, answers)
        self.assertEqual(len(whole), 1 + 24 + 1 + 4)
        for left in range(12):
            given = walk(bits(0.0), bits(1.0), bits(0.3), 3, answers[:left])
            self.assertEqual(given, [left + 1] + whole[1:2 * left + 3])

    def test_answers_behind_the_last_question(self):
        due = [4] + all_bits([0.0, 0.0, 3.0, 3.0, 3.0, 30.0, 6.0, 600.0]) + [4] + all_bits([0.0, 1221.0])
        for pattern in NOT_FINITE:
            answers = all_bits([1.0, 10.0, 100.0, 1000.0]) + [pattern]
            self.assertEqual(walk(bits(0.0), bits(0.0), bits(6.0), 1, answers), due)
            self.assertEqual(answers, all_bits([1.0, 10.0, 100.0, 1000.0]) + [pattern])
            self.assertEqual(walk(bits(0.0), bits(5.0), bits(6.0), 0, [pattern]), [0, 0, bits(5.0)])

    def test_long_runs(self):
        g = lambda u, y: math.cos(3 * u) - y
        for n in [749, 750, 751, 65536]:
            given = self.of_function(-1.0, 0.5, 0.01, n, g)
            self.assertEqual(given[0], min(4 * n, 3001))
            self.assertEqual(len(given), 1 + 8 * n + 1 + n + 1 if n < 751 else 1 + 6002)
        source = drawn(15)
        handed = [some_double(source) & ~(1 << 62) for place in range(3000)]
        kept = list(handed)
        for t, y, h in [(0.0, 1.0, 1e-3), (-5.0, -0.0, -0.7), (0.0, 0.0, 1e-310), (1e300, 1.0, 1e290)]:
            given = walk(bits(t), bits(y), bits(h), 750, handed)
            self.assertEqual(given, walk_due(bits(t), bits(y), bits(h), 750, handed))
            self.assertEqual(len(given), 6753)
        self.assertEqual(handed, kept)


class GivenBack(WalkCase):
    def test_whole_numbers_in_a_list_of_its_own(self):
        for answers in [[1.0, 10.0, 100.0, 1000.0], [1.0, 10.0], []]:
            self.gives_whole_numbers(0.0, 1.0, 6.0, 1, all_bits(answers))
        self.gives_whole_numbers(0.0, 1.0, 6.0, 0, [])
        self.gives_whole_numbers(0.0, 1.0, 6.0, 1, [NOT_FINITE[0]])
        self.gives_whole_numbers(0.0, 1.0, 6.0, -1, [])

    def test_nothing_is_kept_from_one_time_to_the_next(self):
        self.gives_anew(0.0, 1.0, 6.0, 1, all_bits([1.0, 10.0, 100.0, 1000.0]))
        self.gives_anew(0.0, 1.0, 6.0, 0, [])

    def test_drawn_at_random(self):
        source = drawn(16)
        for turn in range(4000):
            t, y, h = [some_double(source) for place in range(3)]
            if source.randrange(2):
                h = h & ~(1 << 62)
            n = source.choice([0, 1, 1, 2, 3, 5, 8, -1, 65536, 65537])
            near = some_double(source)
            answers = [near ^ source.getrandbits(54) for place in range(source.randrange(36))]
            if source.randrange(3) == 0:
                answers = [some_double(source) for place in answers]
            if source.randrange(20) == 0:
                answers.insert(source.randrange(len(answers) + 1), source.choice(NOT_FINITE))
            self.assertEqual(walk(t, y, h, n, list(answers)), walk_due(t, y, h, n, answers))


if __name__ == "__main__":
    unittest.main()
