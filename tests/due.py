"""What is due, told by Python's own floats: the calls written once more, as generators that yield their questions."""

import math
import random
import struct
import unittest

GREATEST = 1.7976931348623157e308
FINEST = 5e-324
LEAST_NORMAL = 2.2250738585072014e-308

# Every pattern that is not finite in a way of its own: both infinities, quiet and signalling NaNs of both signs.
NOT_FINITE = [
    0x7FF0000000000000, 0xFFF0000000000000, 0x7FF8000000000000, 0xFFF8000000000000,
    0x7FF0000000000001, 0xFFF0000000000001, 0x7FFFFFFFFFFFFFFF, 0xFFFFFFFFFFFFFFFF,
]


class Refused(Exception):
    pass


def bits(number):
    return struct.unpack("<Q", struct.pack("<d", number))[0]


def number(pattern):
    return struct.unpack("<d", struct.pack("<Q", pattern))[0]


def all_bits(numbers):
    return [bits(one) for one in numbers]


def by_bits(values):
    """Floats become their bits; counts are whole numbers and stay."""
    return [bits(value) if isinstance(value, float) else value for value in values]


def sure(value):
    if not math.isfinite(value):
        raise Refused(-4)
    return value


def root_steps(a, b, most):
    if most not in range(0, 4001):
        raise Refused(-2)
    sure(a)
    sure(b)
    low = yield a
    high = yield b
    if low == 0:
        return [a, a]
    if high == 0:
        return [b, b]
    if (low < 0) == (high < 0):
        raise Refused(-5)
    while most > 0:
        most -= 1
        span = sure(b - a)
        m = sure(a + sure(span * 0.5))
        if m == a or m == b:
            return [a, b]
        value = yield m
        if value == 0:
            return [m, m]
        if (value < 0) == (low < 0):
            a, low = m, value
        else:
            b = m
    return [a, b]


def area_steps(a, b, n):
    if n not in range(2, 65537, 2):
        raise Refused(-2)
    sure(a)
    sure(b)
    span = sure(b - a)
    h = sure(span / n)
    s = yield a
    for i in range(1, n):
        ahead = sure(i * h)
        value = yield sure(a + ahead)
        product = sure((4.0 if i & 1 else 2.0) * value)
        s = sure(s + product)
    value = yield b
    s = sure(s + value)
    product = sure(s * h)
    return [sure(product / 3)]


def rough_steps(a, b, near):
    sure(a)
    sure(b)
    if sure(near) <= 0:
        raise Refused(-2)
    span = sure(b - a)
    m = sure(a + sure(span * 0.5))
    at_a = yield a
    at_m = yield m
    at_b = yield b
    area = yield from piece_steps((a, m, b), (at_a, at_m, at_b), near, 20)
    return [area]


def estimate(places, heights):
    middle_height = sure(4.0 * heights[1])
    total = sure(heights[0] + middle_height)
    total = sure(total + heights[2])
    width = sure(places[2] - places[0])
    return sure(total * sure(width / 6.0))


def piece_steps(places, heights, e, d):
    whole = estimate(places, heights)
    a, m, b = places
    l = sure(a + sure((m - a) * 0.5))
    r = sure(m + sure((b - m) * 0.5))
    at_l = yield l
    at_r = yield r
    left = (a, l, m), (heights[0], at_l, heights[1])
    right = (m, r, b), (heights[1], at_r, heights[2])
    halves = sure(estimate(*left) + estimate(*right))
    difference = sure(halves - whole)
    bound = sure(15.0 * e)
    if d == 0 or abs(difference) <= bound:
        return sure(halves + difference / 15.0)
    first = yield from piece_steps(*left, e * 0.5, d - 1)
    second = yield from piece_steps(*right, e * 0.5, d - 1)
    return sure(first + second)


def least_steps(a, b, most):
    if most not in range(0, 4001):
        raise Refused(-2)
    sure(a)
    sure(b)
    c = 0.6180339887498949
    x = sure(b - sure(c * sure(b - a)))
    y = sure(a + sure(c * sure(b - a)))
    low = yield x
    high = yield y
    while most > 0:
        most -= 1
        if low < high:
            b, y, high = y, x, low
            x = sure(b - sure(c * sure(b - a)))
            low = yield x
        else:
            a, x, low = x, y, high
            y = sure(a + sure(c * sure(b - a)))
            high = yield y
    return [a, b]


def slope_steps(x, h):
    sure(x)
    if sure(h) == 0:
        raise Refused(-2)
    right = yield sure(x + h)
    left = yield sure(x - h)
    k = h / 2.0
    near_right = yield sure(x + k)
    near_left = yield sure(x - k)
    rise = sure(right - left)
    coarse = sure(rise / sure(2.0 * h))
    rise = sure(near_right - near_left)
    fine = sure(rise / h)
    difference = sure(fine - coarse)
    return [sure(fine + difference / 3.0)]


def walk_steps(t, y, h, n):
    if n not in range(0, 65537):
        raise Refused(-2)
    sure(t)
    sure(y)
    sure(h)
    half, sixth = h / 2.0, h / 6.0
    out = [y]
    while len(out) <= n:
        ahead = sure((len(out) - 1.0) * h)
        u = sure(t + ahead)
        slopes = [(yield u, y)]
        for part in [half, half, h]:
            place = sure(u + part)
            rise = sure(part * slopes[-1])
            slopes.append((yield place, sure(y + rise)))
        total = slopes[0]
        for slope, weight in zip(slopes[1:], [2.0, 2.0, 1.0]):
            weighed = sure(weight * slope)
            total = sure(total + weighed)
        rise = sure(sixth * total)
        y = sure(y + rise)
        out.append(y)
    return out


def table_steps(a, b, n):
    if n not in range(1, 65537):
        raise Refused(-2)
    sure(a)
    sure(b)
    if n == 1:
        return [(yield a)]
    span = sure(b - a)
    h = sure(span / (n - 1.0))
    out = []
    while len(out) < n:
        ahead = sure(float(len(out)) * h)
        out.append((yield sure(a + ahead)))
    return out


def flat(questions):
    """A question of two numbers is a pair of floats, any other a float by itself."""
    numbers = []
    for question in questions:
        numbers.extend(question if isinstance(question, tuple) else [question])
    return numbers


def listed(questions, answer):
    """What is given back, by questions and answer over floats: a refusal, None (wanting) or a list."""
    due = [len(questions)] + all_bits(flat(questions))
    if answer is None:
        return due
    if isinstance(answer, list):
        return due + [len(questions)] + all_bits(answer)
    return due + [answer]


def drive(steps, answers):
    """The list that a call must give back, by its generator over floats."""
    asked = []
    left = list(answers)
    try:
        question = next(steps)
        while True:
            asked.append(question)
            if not left:
                return listed(asked, None)
            question = steps.send(sure(number(left.pop(0))))
    except StopIteration as end:
        return listed(asked, end.value)
    except Refused as refusal:
        return listed(asked, refusal.args[0])


def root_due(a, b, most, answers):
    return drive(root_steps(number(a), number(b), most), answers)


def area_due(a, b, n, answers):
    return drive(area_steps(number(a), number(b), n), answers)


def rough_due(a, b, near, answers):
    return drive(rough_steps(number(a), number(b), number(near)), answers)


def least_due(a, b, most, answers):
    return drive(least_steps(number(a), number(b), most), answers)


def slope_due(x, h, answers):
    return drive(slope_steps(number(x), number(h)), answers)


def walk_due(t, y, h, n, answers):
    return drive(walk_steps(number(t), number(y), number(h), n), answers)


def table_due(a, b, n, answers):
    return drive(table_steps(number(a), number(b), n), answers)


def answers_by(steps, f, most_answers=3000):
    """The answers that f, over floats, gives to the questions of a generator."""
    answers = []
    try:
        question = next(steps)
        while len(answers) < most_answers:
            value = f(*flat([question]))
            answers.append(bits(value))
            question = steps.send(sure(value))
    except (StopIteration, Refused):
        pass
    return answers


def some_double(source):
    """A double of a kind drawn at random: any bits, near 1, near the edges, denormal, a zero."""
    kind = source.randrange(7)
    sign = source.getrandbits(1) << 63
    if kind == 0:
        return sign | source.randrange(0x7FF0000000000000)
    if kind == 1:
        return sign | (source.randrange(1015, 1035) << 52) | source.getrandbits(52)
    if kind == 2:
        return sign | source.getrandbits(source.randrange(1, 53))
    if kind == 3:
        return sign | (source.randrange(0, 60) << 52) | source.getrandbits(52)
    if kind == 4:
        return sign | (source.randrange(2030, 2047) << 52) | source.getrandbits(52)
    if kind == 5:
        return sign | (source.randrange(1000, 1060) << 52) | (source.getrandbits(3) << 49) | source.randrange(3)
    return sign


def drawn(seed):
    return random.Random(seed)


class ListCase(unittest.TestCase):
    def assertListEqual(self, first, second, msg=None):
        """Tells the first place that differs alone: unittest's own account of two long lists takes minutes."""
        if first == second:
            return
        shorter = min(len(first), len(second))
        differing = [place for place in range(shorter) if first[place] != second[place]] + [shorter]
        here = slice(differing[0], differing[0] + 3)
        told = f"of {len(first)} and {len(second)}, from {differing[0]} on: {first[here]} and {second[here]}"
        self.fail(self._formatMessage(msg, told))


class CallCase(ListCase):
    """Cases of one call; a class below it names the call as call, the same by floats as call_due and steps."""

    def gives(self, *row):
        """A row: what is handed in, the answers, the questions, the answer (see listed); all but counts are floats."""
        *handed_in, answers, questions, answer = row
        handed = all_bits(answers)
        self.assertEqual(self.given(*handed_in, handed), listed(questions, answer))
        self.assertEqual(handed, all_bits(answers))

    def given(self, *row):
        *handed_in, answers = row
        told = by_bits(handed_in)
        given = self.call(*told, answers)
        self.assertEqual(given, self.call_due(*told, answers))
        return given

    def of_function(self, *row):
        *handed_in, f = row
        return self.given(*handed_in, answers_by(self.steps(*handed_in), f))

    def gives_whole_numbers(self, *row):
        *handed_in, answers = row
        kept = list(answers)
        given = self.call(*by_bits(handed_in), answers)
        self.assertIs(type(given), list)
        self.assertTrue(all(type(one) is int for one in given))
        self.assertIsNot(given, answers)
        self.assertEqual(answers, kept)

    def gives_anew(self, *row):
        *handed_in, answers = row
        told = by_bits(handed_in)
        others = by_bits([one + 5.0 if isinstance(one, float) else one for one in handed_in])
        first = self.call(*told, answers)
        first_copy = list(first)
        self.call(*others, [])
        second = self.call(*told, answers)
        self.assertEqual(second, first_copy)
        second.append(7)
        self.assertEqual(first, first_copy)
        self.assertEqual(self.call(*told, answers), first_copy)
