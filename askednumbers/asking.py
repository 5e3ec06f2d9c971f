"""Numbers found by asking a function that nobody can look into.

Each call gives back one list: how many questions were asked, these in order, then the call's answer.
"""

from askednumbers.doubles import NotFinite
from askednumbers.doubles import divided
from askednumbers.doubles import finite
from askednumbers.doubles import from_count
from askednumbers.doubles import is_zero
from askednumbers.doubles import minus
from askednumbers.doubles import plus
from askednumbers.doubles import same_number
from askednumbers.doubles import sign_of
from askednumbers.doubles import times

HALF = 0x3FE0000000000000
TWO = 0x4000000000000000
THREE = 0x4008000000000000
FOUR = 0x4010000000000000


class AnswerWanting(Exception):
    pass


class CountRefused(Exception):
    pass


class OneSign(Exception):
    pass


class Questions:
    def __init__(self, answers):
        self.answers = answers
        self.asked = []

    def ask(self, question):
        place = len(self.asked)
        # The question counts as asked even where its answer is wanting or refused.
        self.asked.append(question)
        if place == len(self.answers):
            raise AnswerWanting()
        return finite(self.answers[place])


def answer_of(questions, reckon):
    try:
        out = reckon(questions)
    except AnswerWanting:
        return []
    except CountRefused:
        return [-2]
    except NotFinite:
        return [-4]
    except OneSign:
        return [-5]
    return [len(questions.asked)] + out


def told(answers, reckon):
    questions = Questions(answers)
    answer = answer_of(questions, reckon)
    return [len(questions.asked)] + questions.asked + answer


def middle(a, b):
    return plus(a, times(minus(b, a), HALF))


def root(a, b, most, answers):
    return told(answers, lambda questions: root_out(questions, a, b, most))


def root_out(questions, a, b, most):
    if most < 0 or most > 4000:
        raise CountRefused()
    finite(a)
    finite(b)
    at_a = questions.ask(a)
    # f(b) is asked even where f(a) is 0: both questions stand ahead of what is made of them.
    at_b = questions.ask(b)
    if is_zero(at_a):
        return [a, a]
    if is_zero(at_b):
        return [b, b]
    if sign_of(at_a) == sign_of(at_b):
        raise OneSign()
    return halved(questions, a, b, most, sign_of(at_a))


def halved(questions, a, b, most, sign_at_a):
    for turn in range(most):
        m = middle(a, b)
        if same_number(m, a) or same_number(m, b):
            break
        at_m = questions.ask(m)
        if is_zero(at_m):
            return [m, m]
        # Wherever a comes to lie, f has the same sign there, so the first one serves throughout.
        if sign_of(at_m) == sign_at_a:
            a = m
        else:
            b = m
    return [a, b]


def area(a, b, n, answers):
    return told(answers, lambda questions: area_out(questions, a, b, n))


def area_out(questions, a, b, n):
    if n < 2 or n > 65536 or n % 2 == 1:
        raise CountRefused()
    finite(a)
    finite(b)
    h = divided(minus(b, a), from_count(n))
    s = questions.ask(a)
    for i in range(1, n):
        w = FOUR if i % 2 == 1 else TWO
        s = plus(s, times(w, questions.ask(plus(a, times(from_count(i), h)))))
    s = plus(s, questions.ask(b))
    return [divided(times(s, h), THREE)]
