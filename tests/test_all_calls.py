"""What the document promises over all seven calls together."""

import contextlib
import inspect
import io
import math
import sys
import unittest

from askednumbers import asking
from due import GREATEST, ListCase, NOT_FINITE
from due import all_bits, answers_by, area_due, area_steps, bits, by_bits, drawn, least_due, least_steps, number
from due import root_due, root_steps, rough_due, rough_steps, slope_due, slope_steps, table_due, table_steps
from due import walk_due, walk_steps

CALLS = {
    "root": (asking.root, root_due, root_steps),
    "area": (asking.area, area_due, area_steps),
    "rough": (asking.rough, rough_due, rough_steps),
    "least": (asking.least, least_due, least_steps),
    "slope": (asking.slope, slope_due, slope_steps),
    "walk": (asking.walk, walk_due, walk_steps),
    "table": (asking.table, table_due, table_steps),
}

# Of each call some that come to their end and one that is refused for a count, for near or for h.
HANDED_IN = [
    ("root", -1.0, 2.5, 60), ("root", -1.0, 2.5, 0), ("root", -1.0, 2.5, 4001),
    ("area", -1.0, 2.5, 8), ("area", 2.5, -1.0, 2), ("area", -1.0, 2.5, 7),
    ("rough", -1.0, 2.5, 1e-3), ("rough", -1.0, 2.5, 1e-9), ("rough", -1.0, 2.5, -1.0),
    ("least", -1.0, 2.5, 30), ("least", -1.0, 2.5, 0), ("least", -1.0, 2.5, -1),
    ("slope", 2.5, 0.1), ("slope", 2.5, -0.1), ("slope", 2.5, 0.0),
    ("walk", 0.0, 1.0, 0.1, 9), ("walk", 0.0, 1.0, 0.1, 0), ("walk", 0.0, 1.0, 0.1, 65537),
    ("table", -1.0, 2.5, 12), ("table", -1.0, 2.5, 1), ("table", -1.0, 2.5, 0),
]

# Of each call one that goes on for as long as there are answers, or nearly so.
LONG = [
    ("root", 0.0, GREATEST, 4000), ("area", 0.0, 3.0, 2998), ("rough", -1.0, 3.0, 1e-12), ("least", 0.0, 3.0, 4000),
    ("slope", 0.0, 3.0), ("walk", 0.0, 1.0, 0.01, 750), ("table", 0.0, 3.0, 3000),
]


def f(x, y=0.0):
    return math.sin(x) + x - 0.3 - y


class Unchangeable(list):
    """A list that can't be changed, so that no call can change it for a while and change it back."""

    def refuse(self, *handed_in, **named):
        raise AssertionError("the list that was handed in is changed")

    append = clear = extend = insert = pop = remove = reverse = sort = refuse
    __setitem__ = __delitem__ = __iadd__ = __imul__ = refuse


def rows():
    """Calls as (name, what is handed in, answers): answered to their end, wanting, not finite, refused."""
    made = []
    for name, *handed_in in HANDED_IN:
        answers = answers_by(CALLS[name][2](*handed_in), f)
        told = by_bits(handed_in)
        made.append((name, told, answers))
        made.append((name, told, answers[:len(answers) // 2]))
        made.append((name, told, []))
        made.append((name, told, answers[:2] + NOT_FINITE[:1]))
        made.append((name, NOT_FINITE[1:2] + told[1:], answers))
    made.append(("root", by_bits([1.0, 2.0, 9]), all_bits([1.0, 1.0])))
    return made


def long_rows():
    # By answers without any rule, pieces are halved as deep as they may be.
    source = drawn(20)
    made = [("rough", by_bits([-1.0, 3.0, 1e-300]), all_bits([source.uniform(-1, 1) for place in range(3000)]))]
    for name, *handed_in in LONG:
        answers = answers_by(CALLS[name][2](*handed_in), f)
        made.append((name, by_bits(handed_in), (answers + all_bits([1.0, -1.0] * 1500))[:3000]))
    return made


def given(row):
    name, handed_in, answers = row
    return CALLS[name][0](*handed_in, answers)


def due(row):
    name, handed_in, answers = row
    return CALLS[name][1](*handed_in, answers)


class AllCalls(ListCase):
    def test_rows_are_of_every_kind(self):
        endings = {"whole": 0, "wanting": 0, -2: 0, -4: 0, -5: 0}
        for row in rows():
            told = due(row)
            behind = told[1 + told[0] * (2 if row[0] == "walk" else 1):]
            ending = "wanting" if not behind else "whole" if behind[0] >= 0 else behind[0]
            endings[ending] += 1
        self.assertGreater(min(endings.values()), 0, endings)
        self.assertEqual({row[0] for row in rows()}, set(CALLS))
        self.assertTrue(all(len(answers) == 3000 for name, handed_in, answers in long_rows()))

    def test_each_gives_what_is_due(self):
        for row in rows() + long_rows():
            self.assertEqual(given(row), due(row), row[:2])

    def test_the_same_call_twice(self):
        for row in rows():
            first = given(row)
            second = given(row)
            self.assertEqual(first, second)
            self.assertIsNot(first, second)
            self.assertIsNot(first, row[2])

    def test_calls_in_different_orders(self):
        all_rows = rows()
        places = list(range(len(all_rows)))
        dues = [due(row) for row in all_rows]
        source = drawn(19)
        for turn in range(6):
            for place in places:
                self.assertEqual(given(all_rows[place]), dues[place])
            places.reverse()
            if turn > 0:
                source.shuffle(places)

    def test_what_is_given_back_is_the_caller_s_own(self):
        for row in rows():
            first = given(row)
            kept = list(first)
            first.reverse()
            first.append(-7)
            self.assertEqual(given(row), kept)

    def test_the_answers_are_as_they_were(self):
        for row in rows() + long_rows():
            kept = list(row[2])
            given(row)
            self.assertEqual(row[2], kept, row[:2])
            self.assertTrue(all(type(one) is int for one in row[2]))

    def test_one_list_of_answers_for_all_calls(self):
        answers = all_bits([-1.0, 1.0, 0.5, -0.25, 3.0, 2.0] * 20)
        kept = list(answers)
        for turn in range(2):
            for name, *handed_in in HANDED_IN:
                row = name, by_bits(handed_in), answers
                self.assertEqual(given(row), due(row))
                self.assertEqual(answers, kept)

    def test_the_answers_are_not_changed_for_a_while_either(self):
        for name, handed_in, answers in rows() + long_rows():
            told = CALLS[name][0](*handed_in, Unchangeable(answers))
            self.assertIs(type(told), list)
            self.assertEqual(told, due((name, handed_in, answers)), (name, handed_in))

    def test_the_names_of_the_arguments(self):
        for name, handed_in, answers in rows():
            call = CALLS[name][0]
            named = dict(zip(inspect.signature(call).parameters, handed_in + [answers], strict=True))
            self.assertEqual(call(**named), call(*handed_in, answers))

    def test_nothing_is_printed_read_or_imported(self):
        all_rows = rows()
        printed = io.StringIO()
        read = sys.stdin
        loaded = set(sys.modules)
        sys.stdin = None
        try:
            with contextlib.redirect_stdout(printed), contextlib.redirect_stderr(printed):
                for row in all_rows:
                    given(row)
        finally:
            sys.stdin = read
        self.assertEqual(printed.getvalue(), "")
        self.assertEqual(set(sys.modules), loaded)

    def test_calls_within_one_another_stay_few(self):
        # 21 pieces within one another and what stands round them, however long the call.
        all_rows = rows() + long_rows()
        dues = [due(row) for row in all_rows]
        limit = sys.getrecursionlimit()
        sys.setrecursionlimit(len(inspect.stack()) + 60)
        try:
            told = [given(row) for row in all_rows]
        finally:
            sys.setrecursionlimit(limit)
        for row_told, row_due in zip(told, dues, strict=True):
            self.assertEqual(row_told, row_due)

    def test_the_deepest_pieces_are_reached(self):
        questions = given(long_rows()[0])[1:]
        # 20 halvings down a piece is 2^-20 of the whole, and l lies a quarter of it from a: nothing lies nearer.
        nearest = min(number(one) for one in questions if one != bits(-1.0))
        self.assertEqual(nearest, -1.0 + 4.0 * 2.0 ** -22)


if __name__ == "__main__":
    unittest.main()
