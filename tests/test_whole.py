"""What the document promises over the whole program, of all eight calls together."""

import inspect
import unittest

from gridsteps import desk
from tests.helper import (
    BOUNDS, WHOLE, WRONG_NUMBERS, WRONG_SIZES, GuardedList, identity, joined, mixed_numbers,
    rows_of, scaled,
)

NAMES = ("det", "same", "short", "minima", "reduce", "test", "near", "count")


def handed_in(name, n, b, other):
    """What the call of that name is handed: rows b, and other rows or a part of them."""
    values = {"n": n, "a": other, "b": b, "t": other[:max(n, 0)], "r": 12}
    return [values[part] for part in inspect.signature(getattr(desk, name)).parameters]


def asked(name, n, b, other):
    return getattr(desk, name)(*handed_in(name, n, b, other))


def usual_calls():
    """Calls of each function, for each n, that are answered or refused."""
    calls = []
    for n, bound in BOUNDS.items():
        kinds = [mixed_numbers(n * n, seed, bound) for seed in (4, 5)]
        kinds += [WHOLE[n], identity(n), scaled(n, [-2] * n), [0] * (n * n), [1001] * (n * n)]
        for place, b in enumerate(kinds):
            for name in NAMES:
                calls.append((name, n, b, kinds[place - 1]))
    for n in (0, 6, -1):
        calls += [(name, n, [], []) for name in NAMES]
    return calls


class TheWholeProgram(unittest.TestCase):

    def test_each_call_is_there(self):
        for name in NAMES:
            self.assertTrue(inspect.isfunction(getattr(desk, name)))
            self.assertEqual(getattr(desk, name).__module__, "gridsteps.desk")

    def test_what_is_told_behind_the_first_number(self):
        for n in range(1, 6):
            lengths = {"det": 2, "same": 1, "short": n + 1, "minima": n + 1,
                       "reduce": n * n + 1, "test": 1, "near": n + 1, "count": 2}
            for name in NAMES:
                answer = asked(name, n, WHOLE[n], identity(n))
                self.assertEqual(len(answer), lengths[name])
                self.assertGreaterEqual(answer[0], 0)
                for number in answer:
                    self.assertIs(type(number), int)

    def test_each_refuses_a_wrong_size(self):
        for n in WRONG_SIZES:
            for name in NAMES:
                self.assertEqual(asked(name, n, [], []), [-2])

    def test_each_refuses_a_number_out_of_bounds(self):
        for n in range(1, 6):
            for number in WRONG_NUMBERS:
                for place in range(n * n):
                    wrong = identity(n)
                    wrong[place] = number
                    for name in NAMES:
                        self.assertEqual(asked(name, n, wrong, identity(n)), [-3])
                wrong = [number] + identity(n)[1:]
                self.assertEqual(asked("same", n, identity(n), wrong), [-3])
                self.assertEqual(asked("near", n, identity(n), wrong), [-3])

    def test_each_but_det_refuses_a_determinant_of_0(self):
        for n in range(1, 6):
            twice = rows_of(n, identity(n))
            twice[0] = [0] * n if n == 1 else twice[1]
            for b in ([0] * (n * n), joined(twice)):
                for name in NAMES:
                    told = [0, 0] if name == "det" else [-3]
                    self.assertEqual(asked(name, n, b, identity(n)), told)
                self.assertEqual(asked("same", n, identity(n), b), [-3])

    def test_numbers_at_their_bounds_are_not_refused(self):
        for n in range(1, 6):
            for number in (1000, -1000):
                for name in ("det", "same", "reduce", "test"):
                    b = scaled(n, [number] * n)
                    self.assertGreaterEqual(asked(name, n, b, identity(n))[0], 0)
                other = [number] * n
                self.assertGreaterEqual(asked("near", n, identity(n), other)[0], 0)

    def test_what_is_handed_in_stays_as_it_was(self):
        for name, n, b, other in usual_calls():
            lists = [GuardedList(part) if isinstance(part, list) else part
                     for part in handed_in(name, n, b, other)]
            getattr(desk, name)(*lists)
            self.assertEqual(lists, handed_in(name, n, b, other))

    def test_what_is_given_back_is_not_what_was_handed_in(self):
        for name, n, b, other in usual_calls():
            values = handed_in(name, n, list(b), list(other))
            answer = getattr(desk, name)(*values)
            answer.clear()
            self.assertEqual(values, handed_in(name, n, b, other))

    def test_each_call_as_if_for_the_first_time(self):
        calls = usual_calls()
        told = []
        for call in calls:
            answer = asked(*call)
            told.append(list(answer))
            answer.append(7)
        # After all the others, in the order and from the end on.
        self.assertEqual([asked(*call) for call in calls], told)
        again = [asked(*call) for call in reversed(calls)]
        self.assertEqual(list(reversed(again)), told)

    def test_the_calls_agree_with_one_another(self):
        for n, bound in BOUNDS.items():
            for seed in range(30):
                b = mixed_numbers(n * n, seed + 77, bound)
                if desk.det(n, b) == [0, 0]:
                    continue
                least, point = desk.short(n, b)[0], desk.short(n, b)[1:]
                self.assertEqual(desk.minima(n, b)[1], least)
                self.assertEqual(desk.near(n, b, point), [0] + point)
                rows = desk.reduce(n, b)[1:]
                if max(abs(x) for x in rows) <= 1000:
                    self.assertEqual(abs(desk.det(n, rows)[1]), abs(desk.det(n, b)[1]))
                    self.assertEqual(desk.same(n, b, rows), [1])
                    self.assertEqual(desk.test(n, rows), [1])
                if least <= 12:
                    self.assertEqual(desk.count(n, least - 1, b), [0, 1])
                    self.assertGreater(desk.count(n, least, b)[1], 2)


if __name__ == "__main__":
    unittest.main()
