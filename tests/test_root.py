import unittest

from askednumbers.asking import root
from due import CallCase, FINEST, GREATEST, NOT_FINITE
from due import all_bits, answers_by, bits, drawn, number, root_due, root_steps, some_double


class RootCase(CallCase):
    call = staticmethod(root)
    call_due = staticmethod(root_due)
    steps = staticmethod(root_steps)


class Ends(RootCase):
    def test_f_of_a_is_0(self):
        self.gives(1.0, 3.0, 5, [0.0, 2.0], [1.0, 3.0], [1.0, 1.0])
        self.gives(1.0, 3.0, 5, [-0.0, -2.0], [1.0, 3.0], [1.0, 1.0])
        self.gives(-0.0, 3.0, 0, [0.0, 2.0], [-0.0, 3.0], [-0.0, -0.0])

    def test_f_of_b_is_0(self):
        self.gives(1.0, 3.0, 5, [2.0, 0.0], [1.0, 3.0], [3.0, 3.0])
        self.gives(1.0, 3.0, 5, [-2.0, -0.0], [1.0, 3.0], [3.0, 3.0])
        self.gives(1.0, -0.0, 5, [-2.0, 0.0], [1.0, -0.0], [-0.0, -0.0])

    def test_both_are_0(self):
        self.gives(1.0, 3.0, 5, [0.0, 0.0], [1.0, 3.0], [1.0, 1.0])
        self.gives(1.0, 3.0, 5, [-0.0, 0.0], [1.0, 3.0], [1.0, 1.0])

    def test_one_sign(self):
        self.gives(1.0, 3.0, 5, [2.0, 7.0], [1.0, 3.0], -5)
        self.gives(1.0, 3.0, 5, [-2.0, -7.0], [1.0, 3.0], -5)
        self.gives(1.0, 3.0, 0, [FINEST, GREATEST], [1.0, 3.0], -5)
        self.gives(1.0, 3.0, 5, [-FINEST, -GREATEST, 1.0], [1.0, 3.0], -5)
        self.gives(2.0, 2.0, 5, [1.0, 1.0], [2.0, 2.0], -5)


class Halving(RootCase):
    def test_both_ways_of_going_on(self):
        # f(a) below 0: -1 moves a, 1 moves b.
        self.gives(0.0, 8.0, 3, [-1.0, 1.0, -1.0, 1.0, -1.0], [0.0, 8.0, 4.0, 6.0, 5.0], [5.0, 6.0])
        self.gives(0.0, 8.0, 1, [-1.0, 1.0, -3.0], [0.0, 8.0, 4.0], [4.0, 8.0])
        self.gives(0.0, 8.0, 1, [-1.0, 1.0, 3.0], [0.0, 8.0, 4.0], [0.0, 4.0])
        # f(a) above 0: the other way round.
        self.gives(0.0, 8.0, 1, [1.0, -1.0, -3.0], [0.0, 8.0, 4.0], [0.0, 4.0])
        self.gives(0.0, 8.0, 1, [1.0, -1.0, 3.0], [0.0, 8.0, 4.0], [4.0, 8.0])

    def test_a_above_b(self):
        self.gives(8.0, 0.0, 2, [1.0, -1.0, -1.0, 1.0], [8.0, 0.0, 4.0, 6.0], [6.0, 4.0])

    def test_the_middle_at_which_f_is_0(self):
        self.gives(0.0, 8.0, 9, [-1.0, 1.0, 0.0], [0.0, 8.0, 4.0], [4.0, 4.0])
        self.gives(0.0, 8.0, 9, [-1.0, 1.0, -0.0], [0.0, 8.0, 4.0], [4.0, 4.0])
        self.gives(0.0, 8.0, 2, [1.0, -1.0, 1.0, 0.0], [0.0, 8.0, 4.0, 6.0], [6.0, 6.0])
        self.gives(-1.0, 1.0, 2, [1.0, -1.0, 0.0], [-1.0, 1.0, 0.0], [0.0, 0.0])

    def test_the_middle_is_a(self):
        beside = 1 + 2.0 ** -52
        # The middle is a tie, and goes to the end whose last bit is 0.
        self.gives(1.0, beside, 9, [-1.0, 1.0], [1.0, beside], [1.0, beside])
        self.gives(0.0, FINEST, 9, [-1.0, 1.0], [0.0, FINEST], [0.0, FINEST])
        self.gives(2.0, 2.0, 9, [-1.0, 1.0], [2.0, 2.0], [2.0, 2.0])

    def test_the_middle_is_b(self):
        odd = 1 + 2.0 ** -52
        even = 1 + 2.0 ** -51
        self.gives(odd, even, 9, [-1.0, 1.0], [odd, even], [odd, even])

    def test_the_middle_is_an_end_as_a_number_only(self):
        # -0 + 0 is +0: another pattern than a's, but the same number.
        self.gives(-0.0, FINEST, 9, [-1.0, 1.0], [-0.0, FINEST], [-0.0, FINEST])
        self.gives(-0.0, -0.0, 9, [-1.0, 1.0], [-0.0, -0.0], [-0.0, -0.0])
        self.gives(-0.0, 0.0, 9, [-1.0, 1.0], [-0.0, 0.0], [-0.0, 0.0])
        self.gives(0.0, -0.0, 9, [1.0, -1.0], [0.0, -0.0], [0.0, -0.0])

    def test_it_ends_by_itself_before_most(self):
        f = lambda x: x * x - 2
        answers = answers_by(root_steps(1.0, 2.0, 4000), f)
        given = root(bits(1.0), bits(2.0), 4000, answers)
        self.assertEqual(given, root_due(bits(1.0), bits(2.0), 4000, answers))
        self.assertEqual(given[-3], given[0])
        self.assertEqual(given[0], len(answers))
        self.assertEqual(given[-1] - given[-2], 1)
        self.assertEqual(number(given[-2]), 1.414213562373095)

    def test_each_most_up_to_the_end(self):
        f = lambda x: x * x * x - 5
        answers = answers_by(root_steps(0.0, 3.0, 4000), f)
        for most in range(70):
            given = root(bits(0.0), bits(3.0), most, answers)
            self.assertEqual(given, root_due(bits(0.0), bits(3.0), most, answers))
            self.assertEqual(given[0], min(most + 2, len(answers)))


class Counts(RootCase):
    def test_most_0(self):
        self.gives(0.0, 8.0, 0, [-1.0, 1.0], [0.0, 8.0], [0.0, 8.0])
        self.gives(-0.0, 8.0, 0, [-1.0, 1.0, 5.0], [-0.0, 8.0], [-0.0, 8.0])
        # Without a turn nothing is reckoned, so nothing can be too large.
        self.gives(-GREATEST, GREATEST, 0, [-1.0, 1.0], [-GREATEST, GREATEST], [-GREATEST, GREATEST])

    def test_most_4000(self):
        self.gives(0.0, 8.0, 4000, [-1.0, 1.0, 0.0], [0.0, 8.0, 4.0], [4.0, 4.0])

    def test_most_outside(self):
        for most in [-1, 4001, -2, 5000, -2147483648, 2147483647]:
            self.gives(0.0, 8.0, most, [-1.0, 1.0, 0.0], [], -2)
            self.gives(0.0, 8.0, most, [], [], -2)

    def test_counts_are_looked_at_first(self):
        for pattern in NOT_FINITE:
            self.assertEqual(root(pattern, bits(1.0), 4001, []), [0, -2])
            self.assertEqual(root(bits(1.0), pattern, -1, []), [0, -2])
            self.assertEqual(root(pattern, pattern, -1, [pattern]), [0, -2])


class NotFinite(RootCase):
    def test_a_and_b(self):
        one = bits(1.0)
        for pattern in NOT_FINITE:
            self.assertEqual(root(pattern, one, 5, [one, one]), [0, -4])
            self.assertEqual(root(one, pattern, 5, [one, one]), [0, -4])
            self.assertEqual(root(pattern, pattern, 0, []), [0, -4])
            self.assertEqual(root(one, pattern, 0, [bits(0.0)]), [0, -4])

    def test_each_answer(self):
        a, b = bits(0.0), bits(8.0)
        for pattern in NOT_FINITE:
            self.assertEqual(root(a, b, 5, [pattern, bits(1.0)]), [1, a, -4])
            self.assertEqual(root(a, b, 5, [pattern]), [1, a, -4])
            self.assertEqual(root(a, b, 5, [bits(-1.0), pattern]), [2, a, b, -4])
            self.assertEqual(root(a, b, 5, [bits(0.0), pattern]), [2, a, b, -4])
            self.assertEqual(root(a, b, 5, [bits(-1.0), bits(1.0), pattern]), [3, a, b, bits(4.0), -4])
            self.assertEqual(
                root(a, b, 5, [bits(-1.0), bits(1.0), bits(1.0), pattern]), [4, a, b, bits(4.0), bits(2.0), -4]
            )

    def test_what_is_reckoned(self):
        self.gives(-GREATEST, GREATEST, 1, [-1.0, 1.0, 0.0], [-GREATEST, GREATEST], -4)
        self.gives(1e308, -1e308, 4000, [-1.0, 1.0, 0.0], [1e308, -1e308], -4)
        # Ends and signs go before the difference.
        self.gives(-GREATEST, GREATEST, 1, [0.0, 1.0], [-GREATEST, GREATEST], [-GREATEST, -GREATEST])
        self.gives(-GREATEST, GREATEST, 1, [1.0, 1.0], [-GREATEST, GREATEST], -5)

    def test_the_greatest_difference_that_is_finite(self):
        self.gives(-GREATEST / 2, GREATEST / 2, 1, [-1.0, 1.0, 1.0], [-GREATEST / 2, GREATEST / 2, 0.0],
                   [-GREATEST / 2, 0.0])


class Answers(RootCase):
    def test_wanting_at_each_place(self):
        f = lambda x: x * x * x - 5
        answers = answers_by(root_steps(0.0, 3.0, 4000), f)
        whole = root(bits(0.0), bits(3.0), 4000, answers)
        for left in range(len(answers)):
            given = root(bits(0.0), bits(3.0), 4000, answers[:left])
            self.assertEqual(given, [left + 1] + whole[1:left + 2])

    def test_wanting(self):
        self.gives(1.0, 3.0, 5, [], [1.0], None)
        self.gives(1.0, 3.0, 5, [0.0], [1.0, 3.0], None)
        self.gives(1.0, 3.0, 5, [2.0], [1.0, 3.0], None)
        self.gives(1.0, 3.0, 5, [2.0, -2.0], [1.0, 3.0, 2.0], None)

    def test_answers_behind_the_last_question(self):
        for pattern in NOT_FINITE:
            a, b = bits(1.0), bits(3.0)
            self.assertEqual(root(a, b, 0, [bits(-1.0), bits(1.0), pattern]), [2, a, b, 2, a, b])
            self.assertEqual(root(a, b, 5, [bits(0.0), bits(1.0), pattern]), [2, a, b, 2, a, a])
            self.assertEqual(root(a, b, 5, [bits(1.0), bits(1.0), pattern]), [2, a, b, -5])
            self.assertEqual(
                root(a, b, 1, [bits(-1.0), bits(1.0), bits(1.0), pattern]), [3, a, b, bits(2.0), 3, a, bits(2.0)]
            )

    def test_the_same_question_answered_otherwise(self):
        self.gives(2.0, 2.0, 9, [-1.0, 1.0, 0.0], [2.0, 2.0], [2.0, 2.0])

    def test_long_runs(self):
        # Towards 0 from afar, a halving takes some two thousand turns.
        for answer in [-1.0, 1.0]:
            handed = all_bits([-1.0, 1.0] + [answer] * 2998)
            for a, b in [(0.0, GREATEST), (-GREATEST, 0.0), (GREATEST, 0.0), (0.0, -1e300), (-1e300, 1e300)]:
                given = root(bits(a), bits(b), 4000, list(handed))
                self.assertEqual(given, root_due(bits(a), bits(b), 4000, handed))
        given = root(bits(0.0), bits(GREATEST), 4000, all_bits([-1.0] + [1.0] * 2999))
        self.assertGreater(given[0], 2000)
        self.assertEqual(given[-2:], all_bits([0.0, FINEST]))


class GivenBack(RootCase):
    def test_whole_numbers_in_a_list_of_its_own(self):
        for answers in [[-1.0, 1.0, 0.0], [-1.0, 1.0], [], [1.0, 1.0]]:
            self.gives_whole_numbers(0.0, 8.0, 5, all_bits(answers))
        self.gives_whole_numbers(0.0, 8.0, -1, [])

    def test_nothing_is_kept_from_one_time_to_the_next(self):
        self.gives_anew(0.0, 8.0, 2, all_bits([-1.0, 1.0, 1.0, -1.0]))

    def test_drawn_at_random(self):
        source = drawn(3)
        for turn in range(3000):
            a = some_double(source)
            b = source.choice([some_double(source), a ^ source.randrange(1, 9), a ^ (1 << 63)])
            most = source.choice([0, 1, 2, 3, 60, 4000, -1, 4001])
            answers = [some_double(source) for place in range(source.randrange(70))]
            if len(answers) > 1 and source.randrange(4):
                answers[1] = answers[0] ^ (1 << 63)
            if source.randrange(20) == 0:
                answers.append(source.choice(NOT_FINITE))
            self.assertEqual(root(a, b, most, list(answers)), root_due(a, b, most, answers))


if __name__ == "__main__":
    unittest.main()
