"""Numbers found by asking a function that nobody can look into.

Each call gives back one list: how many questions were asked, these in order, then the call's answer.
"""

from askednumbers.doubles import NotFinite
from askednumbers.doubles import divided
from askednumbers.doubles import finite
from askednumbers.doubles import from_count
from askednumbers.doubles import is_zero
from askednumbers.doubles import less
from askednumbers.doubles import minus
from askednumbers.doubles import plus
from askednumbers.doubles import same_number
from askednumbers.doubles import sign_of
from askednumbers.doubles import times
from askednumbers.doubles import without_sign

ZERO = 0x0000000000000000
HALF = 0x3FE0000000000000
# The golden section's 0.6180339887498949.
GOLDEN = 0x3FE3C6EF372FE950
TWO = 0x4000000000000000
THREE = 0x4008000000000000
FOUR = 0x4010000000000000
SIX = 0x4018000000000000
FIFTEEN = 0x402E000000000000

# How deep pieces of an area may still be halved, seen from the first one.
DEEPEST = 20


class AnswerWanting(Exception):
    pass


class OutOfBounds(Exception):
    pass


class OneSign(Exception):
    pass


class Questions:
    def __init__(self, answers):
        self.answers = answers
        # Questions are counted by themselves: one of two numbers is still one question.
        self.count = 0
        self.asked = []

    def ask(self, x):
        self.asked.append(x)
        return self.answered()

    def ask_two(self, x, y):
        self.asked.extend([x, y])
        return self.answered()

    def answered(self):
        place = self.count
        # The question counts as asked even where its answer is wanting or refused.
        self.count = place + 1
        if place == len(self.answers):
            raise AnswerWanting()
        return finite(self.answers[place])


class Piece:
    # A piece keeps what was answered at its ends and its middle, so that nothing is asked again further down.
    def __init__(self, a, m, b, at_a, at_m, at_b):
        self.a = a
        self.m = m
        self.b = b
        self.at_a = at_a
        self.at_m = at_m
        self.at_b = at_b
        heights = plus(plus(at_a, times(FOUR, at_m)), at_b)
        self.estimate = times(heights, divided(minus(b, a), SIX))


def answer_of(questions, reckon):
    try:
        out = reckon(questions)
    except AnswerWanting:
        return []
    except OutOfBounds:
        return [-2]
    except NotFinite:
        return [-4]
    except OneSign:
        return [-5]
    return [questions.count] + out


def told(answers, reckon):
    questions = Questions(answers)
    answer = answer_of(questions, reckon)
    return [questions.count] + questions.asked + answer


def check_count(count, lowest, highest):
    if count < lowest or count > highest:
        raise OutOfBounds()


def middle(a, b):
    return plus(a, times(minus(b, a), HALF))


def root(a, b, most, answers):
    return told(answers, lambda questions: root_out(questions, a, b, most))


def root_out(questions, a, b, most):
    check_count(most, 0, 4000)
    finite(a)
    finite(b)
    at_a = questions.ask(a)
    # f(b) is asked even where f(a) is 0: both questions stand ahead of what is made of them.
    at_b = questions.ask(b)
    if is_zero(at_a):
        return [a, a]
    if is_zero(at_b):
        return [b, b]
    if sign_of(at_a) == sign_of(at_b):
        raise OneSign()
    return halved(questions, a, b, most, sign_of(at_a))


def halved(questions, a, b, most, sign_at_a):
    for turn in range(most):
        m = middle(a, b)
        if same_number(m, a) or same_number(m, b):
            break
        at_m = questions.ask(m)
        if is_zero(at_m):
            return [m, m]
        # Wherever a comes to lie, f has the same sign there, so the first one serves throughout.
        if sign_of(at_m) == sign_at_a:
            a = m
        else:
            b = m
    return [a, b]


def area(a, b, n, answers):
    return told(answers, lambda questions: area_out(questions, a, b, n))


def area_out(questions, a, b, n):
    check_count(n, 2, 65536)
    if n % 2 == 1:
        raise OutOfBounds()
    finite(a)
    finite(b)
    h = divided(minus(b, a), from_count(n))
    s = questions.ask(a)
    for i in range(1, n):
        w = FOUR if i % 2 == 1 else TWO
        s = plus(s, times(w, questions.ask(plus(a, times(from_count(i), h)))))
    s = plus(s, questions.ask(b))
    return [divided(times(s, h), THREE)]


def rough(a, b, near, answers):
    return told(answers, lambda questions: rough_out(questions, a, b, near))


def rough_out(questions, a, b, near):
    finite(a)
    finite(b)
    # Whether near is finite goes before whether it is above 0.
    finite(near)
    if not less(ZERO, near):
        raise OutOfBounds()
    m = middle(a, b)
    at_a = questions.ask(a)
    at_m = questions.ask(m)
    at_b = questions.ask(b)
    # The whole piece's sum stands ahead of the next questions: where it isn't finite, these aren't asked.
    whole = Piece(a, m, b, at_a, at_m, at_b)
    return [area_of_piece(questions, whole, near, DEEPEST)]


def area_of_piece(questions, piece, near, deep):
    l = middle(piece.a, piece.m)
    r = middle(piece.m, piece.b)
    at_l = questions.ask(l)
    at_r = questions.ask(r)
    left = Piece(piece.a, l, piece.m, piece.at_a, at_l, piece.at_m)
    right = Piece(piece.m, r, piece.b, piece.at_m, at_r, piece.at_b)
    both = plus(left.estimate, right.estimate)
    change = minus(both, piece.estimate)
    allowed = times(FIFTEEN, near)
    if deep == 0 or not less(allowed, without_sign(change)):
        return plus(both, divided(change, FIFTEEN))
    nearer = times(near, HALF)
    left_area = area_of_piece(questions, left, nearer, deep - 1)
    right_area = area_of_piece(questions, right, nearer, deep - 1)
    return plus(left_area, right_area)


def least(a, b, most, answers):
    return told(answers, lambda questions: least_out(questions, a, b, most))


def least_out(questions, a, b, most):
    check_count(most, 0, 4000)
    finite(a)
    finite(b)
    x = minus(b, golden_part(a, b))
    y = plus(a, golden_part(a, b))
    at_x = questions.ask(x)
    at_y = questions.ask(y)
    for turn in range(most):
        if less(at_x, at_y):
            b = y
            y = x
            at_y = at_x
            x = minus(b, golden_part(a, b))
            at_x = questions.ask(x)
        else:
            a = x
            x = y
            at_x = at_y
            y = plus(a, golden_part(a, b))
            at_y = questions.ask(y)
    return [a, b]


def golden_part(a, b):
    return times(GOLDEN, minus(b, a))


def slope(x, h, answers):
    return told(answers, lambda questions: slope_out(questions, x, h))


def slope_out(questions, x, h):
    finite(x)
    # Whether x and h are finite goes before whether h is 0.
    finite(h)
    if is_zero(h):
        raise OutOfBounds()
    first = questions.ask(plus(x, h))
    second = questions.ask(minus(x, h))
    k = times(h, HALF)
    third = questions.ask(plus(x, k))
    fourth = questions.ask(minus(x, k))
    wide = divided(minus(first, second), plus(h, h))
    narrow = divided(minus(third, fourth), h)
    return [plus(narrow, divided(minus(narrow, wide), THREE))]


def walk(t, y, h, n, answers):
    return told(answers, lambda questions: walk_out(questions, t, y, h, n))


def walk_out(questions, t, y, h, n):
    check_count(n, 0, 65536)
    finite(t)
    finite(y)
    finite(h)
    p = times(h, HALF)
    q = divided(h, SIX)
    out = [y]
    for i in range(n):
        # From i each time: adding h again and again would round otherwise.
        u = plus(t, times(from_count(i), h))
        y = plus(y, times(q, slopes_within(questions, u, y, h, p)))
        out.append(y)
    return out


def slopes_within(questions, u, y, h, p):
    k1 = questions.ask_two(u, y)
    k2 = questions.ask_two(plus(u, p), plus(y, times(p, k1)))
    k3 = questions.ask_two(plus(u, p), plus(y, times(p, k2)))
    k4 = questions.ask_two(plus(u, h), plus(y, times(h, k3)))
    return plus(plus(plus(k1, times(TWO, k2)), times(TWO, k3)), k4)


def table(a, b, n, answers):
    return told(answers, lambda questions: table_out(questions, a, b, n))


def table_out(questions, a, b, n):
    check_count(n, 1, 65536)
    finite(a)
    # b must be finite even where n is 1 and nothing is made of it.
    finite(b)
    if n == 1:
        return [questions.ask(a)]
    h = divided(minus(b, a), from_count(n - 1))
    # The first place is a sum too: where a is -0 it may come to 0.
    return [questions.ask(plus(a, times(from_count(i), h))) for i in range(n)]
