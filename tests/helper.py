"""Calls by their names, and the answers of a list of calls, one list of numbers a call."""

import unittest

from shorewaters.waters import answers

TOP = 4294967295

ARGUMENTS = (5, 0, 2, 1, 1, 1, 1, 0, 0, 1, 1, 1, 2, 2, 3, 3, 2, 2, 0, 0, 1, 1, 0)


def begin(good=10, fair=20, peak=50, rain=25, days=5):
    return [0, good, fair, peak, rain, days]


def area():
    return [1]


def read(i, x):
    return [2, i, x]


def back(i):
    return [3, i]


def rainfall(mm):
    return [4, mm]


def days(n):
    return [5, n]


def class_(i):
    return [6, i]


def open_():
    return [7]


def shut():
    return [8]


def opens(i):
    return [9, i]


def mean(i):
    return [10, i]


def evenly(i):
    return [11, i]


def greatest(i, c):
    return [12, i, c]


def would(i, x):
    return [13, i, x]


def needs(i, x, c):
    return [14, i, x, c]


def lasts(i, x, c):
    return [15, i, x, c]


def above(i, m):
    return [16, i, m]


def worse(i, j):
    return [17, i, j]


def best():
    return [18]


def order():
    return [19]


def why(i):
    return [20, i]


def reads(i):
    return [21, i]


def state():
    return [22]


def read_all(i, readings):
    return [read(i, x) for x in readings]


def looks():
    """Every call that only looks, at areas that are there and at some that may not be."""
    calls = [open_(), shut(), best(), order(), state()]
    for i in (0, 1, 2, 5, 6):
        calls += [class_(i), opens(i), mean(i), evenly(i), why(i), reads(i)]
    for i in range(2):
        calls += [greatest(i, 1), greatest(i, 2), would(i, 12), needs(i, 9, 1), lasts(i, 51, 2), above(i, 10)]
        calls += [worse(i, 1 - i)]
    return calls


def takes_apart():
    """Calls that bring to light what looking alone doesn't: older readings, the days shut, what rain is let."""
    calls = looks()
    for i in range(2):
        calls += [back(i)] * 12 + read_all(i, (11, 51, 10, 9, 12)) + [read(i, 51)]
    return calls + [rainfall(25), rainfall(26), area(), area(), shut(), days(3)] + looks()


def ask(calls):
    """The answers, one list a call, without the counts, which are checked on the way."""
    handed = [number for call in calls for number in call]
    if len(calls) > 256 or len(handed) > 1536:
        raise AssertionError(f"such a list is never handed in: {len(calls)} calls")
    told = answers(handed)
    if type(told) is not list or [x for x in told if type(x) is not int]:
        raise AssertionError(f"not a list of whole numbers: {told!r}")
    parted = []
    at = 0
    while at < len(told):
        parted.append(told[at + 1:at + 1 + told[at]])
        at += 1 + told[at]
    if at != len(told) or len(parted) != len(calls):
        raise AssertionError(f"the counts do not fit the answers: {told!r}")
    return parted


def last(calls):
    return ask(calls)[-1]


class Case(unittest.TestCase):
    def answers_last(self, calls, expected):
        self.assertEqual(last(calls), expected)

    def answers_end(self, calls, expected):
        """The last calls' answers."""
        self.assertEqual(ask(calls)[-len(expected):], expected)

    def changes_nothing(self, calls, between, expected):
        """The calls between are answered as expected, and all that comes after is as if without them."""
        told = ask(calls + between + takes_apart())
        self.assertEqual(told[len(calls):len(calls) + len(between)], expected)
        without = ask(calls + takes_apart())
        self.assertEqual(told[len(calls) + len(between):], without[len(calls):])
