"""What is due, told by Python's own floats: the calls written once more, as generators that yield their questions."""

import math
import random
import struct
import unittest

GREATEST = 1.7976931348623157e308
FINEST = 5e-324
LEAST_NORMAL = 2.2250738585072014e-308

# Every pattern that is not finite in a way of its own: both infinities, quiet and signalling NaNs of both signs.
NOT_FINITE = [
    0x7FF0000000000000, 0xFFF0000000000000, 0x7FF8000000000000, 0xFFF8000000000000,
    0x7FF0000000000001, 0xFFF0000000000001, 0x7FFFFFFFFFFFFFFF, 0xFFFFFFFFFFFFFFFF,
]


class Refused(Exception):
    pass


def bits(number):
    return struct.unpack("<Q", struct.pack("<d", number))[0]


def number(pattern):
    return struct.unpack("<d", struct.pack("<Q", pattern))[0]


def all_bits(numbers):
    return [bits(one) for one in numbers]


def sure(value):
    if not math.isfinite(value):
        raise Refused(-4)
    return value


def root_steps(a, b, most):
    if most not in range(0, 4001):
        raise Refused(-2)
    sure(a)
    sure(b)
    low = yield a
    high = yield b
    if low == 0:
        return [a, a]
    if high == 0:
        return [b, b]
    if (low < 0) == (high < 0):
        raise Refused(-5)
    while most > 0:
        most -= 1
        span = sure(b - a)
        m = sure(a + sure(span * 0.5))
        if m == a or m == b:
            return [a, b]
        value = yield m
        if value == 0:
            return [m, m]
        if (value < 0) == (low < 0):
            a, low = m, value
        else:
            b = m
    return [a, b]


def area_steps(a, b, n):
    if n not in range(2, 65537, 2):
        raise Refused(-2)
    sure(a)
    sure(b)
    span = sure(b - a)
    h = sure(span / n)
    s = yield a
    for i in range(1, n):
        ahead = sure(i * h)
        value = yield sure(a + ahead)
        product = sure((4.0 if i & 1 else 2.0) * value)
        s = sure(s + product)
    value = yield b
    s = sure(s + value)
    product = sure(s * h)
    return [sure(product / 3)]


def drive(steps, answers):
    """The list that a call must give back, by its generator over floats."""
    asked = []
    left = list(answers)
    try:
        question = next(steps)
        while True:
            asked.append(bits(question))
            if not left:
                return [len(asked)] + asked
            question = steps.send(sure(number(left.pop(0))))
    except StopIteration as end:
        return [len(asked)] + asked + [len(asked)] + all_bits(end.value)
    except Refused as refusal:
        return [len(asked)] + asked + [refusal.args[0]]


def root_due(a, b, most, answers):
    return drive(root_steps(number(a), number(b), most), answers)


def area_due(a, b, n, answers):
    return drive(area_steps(number(a), number(b), n), answers)


def answers_by(steps, f, most_answers=3000):
    """The answers that f, over floats, gives to the questions of a generator."""
    answers = []
    try:
        question = next(steps)
        while len(answers) < most_answers:
            value = f(question)
            answers.append(bits(value))
            question = steps.send(sure(value))
    except (StopIteration, Refused):
        pass
    return answers


def some_double(source):
    """A double of a kind drawn at random: any bits, near 1, near the edges, denormal, a zero."""
    kind = source.randrange(7)
    sign = source.getrandbits(1) << 63
    if kind == 0:
        return sign | source.randrange(0x7FF0000000000000)
    if kind == 1:
        return sign | (source.randrange(1015, 1035) << 52) | source.getrandbits(52)
    if kind == 2:
        return sign | source.getrandbits(source.randrange(1, 53))
    if kind == 3:
        return sign | (source.randrange(0, 60) << 52) | source.getrandbits(52)
    if kind == 4:
        return sign | (source.randrange(2030, 2047) << 52) | source.getrandbits(52)
    if kind == 5:
        return sign | (source.randrange(1000, 1060) << 52) | (source.getrandbits(3) << 49) | source.randrange(3)
    return sign


def drawn(seed):
    return random.Random(seed)


class CallCase(unittest.TestCase):
    """Cases of one call; a class below it names the call, and the same by floats, as call and call_due."""

    def gives(self, a, b, count, answers, questions, answer):
        """questions and the doubles of the answer are floats; the answer is a refusal, None (wanting) or a list."""
        handed = all_bits(answers)
        due = [len(questions)] + all_bits(questions)
        if isinstance(answer, list):
            due = due + [len(questions)] + all_bits(answer)
        elif answer is not None:
            due = due + [answer]
        self.assertEqual(self.call(bits(a), bits(b), count, handed), due)
        self.assertEqual(self.call_due(bits(a), bits(b), count, handed), due)
        self.assertEqual(handed, all_bits(answers))

    def gives_whole_numbers(self, a, b, count, answers):
        kept = list(answers)
        given = self.call(bits(a), bits(b), count, answers)
        self.assertIs(type(given), list)
        self.assertTrue(all(type(one) is int for one in given))
        self.assertIsNot(given, answers)
        self.assertEqual(answers, kept)

    def gives_anew(self, a, b, count, answers):
        first = self.call(bits(a), bits(b), count, answers)
        first_copy = list(first)
        self.call(bits(5.0), bits(6.0), count, [])
        second = self.call(bits(a), bits(b), count, answers)
        self.assertEqual(second, first_copy)
        second.append(7)
        self.assertEqual(first, first_copy)
        self.assertEqual(self.call(bits(a), bits(b), count, answers), first_copy)
