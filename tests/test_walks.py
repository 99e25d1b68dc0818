"""Long lists of calls beside a slow second telling, and what holds over all of them."""

import itertools
import unittest

from shorewaters.waters import answers
from tests.helper import (
    TOP, area, ask, begin, class_, evenly, greatest, last, mean, open_, rainfall, read, read_all, shut, would,
)

CHANGE = (0, 1, 2, 3, 4, 5)
OF_AREA = (2, 3, 6, 9, 10, 11, 12, 13, 14, 15, 16, 17, 20, 21)


class Slow:
    """The same told once more, from all that was done since the last begin, with nothing else kept."""

    def __init__(self):
        self.told = None

    def day(self):
        return sum(n for kind, i, n in self.done if kind == "days")

    def count(self):
        return len([1 for kind, i, n in self.done if kind == "area"])

    def readings(self, i):
        found = []
        for kind, k, x in self.done:
            if kind == "read" and k == i:
                found = found + [x]
            if kind == "back" and k == i:
                found = found[:-1]
        return found

    def shut_for(self, i):
        today, born, until = 0, 0, 0
        for kind, k, n in self.done:
            today += n if kind == "days" else 0
            born += 1 if kind == "area" else 0
            if kind == "rain" and born > i:
                until = max(until, today + self.told[4])
        return max(0, until - today)

    def product(self, readings):
        a, b, c, d, e = readings[::-1][:5]
        return a * b * c * d * e

    def peaks(self, readings):
        return sum(x > self.told[2] for x in readings[::-1][:10])

    def class_with(self, readings):
        if len(readings) < 5:
            return 0
        if self.product(readings) <= self.told[0] ** 5 and self.peaks(readings) < 2:
            return 1
        return 2 if self.product(readings) <= self.told[1] ** 5 else 3

    def class_(self, i):
        return self.class_with(self.readings(i))

    def open_(self):
        return [i for i in range(self.count()) if self.class_(i) in (1, 2) and self.shut_for(i) == 0]

    def answer(self, call):
        number, rest = call[0], call[1:]
        if number == 0:
            return self.begin(rest)
        if self.told is None:
            return [-11]
        if number not in OF_AREA:
            return self.of_all(number, rest)
        if rest[0] >= self.count() or number == 17 and rest[1] >= self.count():
            return [-2]
        if number in (2, 3):
            return self.changed(number, rest[0], rest[1:])
        if number in (12, 13, 14, 15):
            return self.ahead(number, self.readings(rest[0]), rest[1:])
        return self.of_area(number, rest[0], rest[1:])

    def begin(self, rest):
        good, fair, peak, rain, shuts = rest
        if not (0 < good <= fair < 1001 and 0 < peak < 1001 and rain < 1001 and shuts < 61):
            return [-22]
        self.told, self.done = rest, []
        return [0]

    def of_all(self, number, rest):
        if number == 1:
            if self.count() == 6:
                return [-28]
            self.done.append(("area", 0, 0))
            return [self.count() - 1]
        if number == 4:
            if rest[0] > 1000:
                return [-22]
            if rest[0] <= self.told[3]:
                return [0]
            self.done.append(("rain", 0, 0))
            return [self.told[4]]
        if number == 5:
            if rest[0] == 0 or rest[0] > 100:
                return [-22]
            if self.day() + rest[0] > 10000:
                return [-75]
            self.done.append(("days", 0, rest[0]))
            return [self.day(), len(self.open_())]
        if number == 22:
            return [0, self.day()] + self.told + [self.count()]
        if number in (18, 19):
            return self.ranked(number)
        found = self.open_() if number == 7 else [i for i in range(self.count()) if self.shut_for(i)]
        return [len(found)] + found

    def better(self, i, j):
        """Whether i comes ahead of j, by the words one behind another."""
        few = [len(self.readings(k)) < 5 for k in (i, j)]
        if few[0] or few[1]:
            return i < j if few[0] and few[1] else few[1]
        one, other = self.product(self.readings(i)), self.product(self.readings(j))
        return i < j if one == other else one < other

    def ranked(self, number):
        """Each area's place is how many are better."""
        areas = range(self.count())
        found = [None] * self.count()
        for i in areas:
            found[len([j for j in areas if j != i and self.better(j, i)])] = i
        if number == 19:
            return [len(found)] + found
        if not found or len(self.readings(found[0])) < 5:
            return [-6]
        return [found[0], self.root(self.product(self.readings(found[0])))]

    def root(self, product):
        return max(m for m in range(1, 1001) if m ** 5 <= product)

    def changed(self, number, i, rest):
        readings, before = self.readings(i), self.class_(i)
        if number == 2:
            if rest[0] == 0 or rest[0] > 1000:
                return [-22]
            if len(readings) == 60:
                return [-28]
            self.done.append(("read", i, rest[0]))
            return [self.class_(i), before]
        if not readings:
            return [-6]
        self.done.append(("back", i, 0))
        return [readings[-1], self.class_(i)]

    def ahead(self, number, readings, rest):
        c = 1 if number == 13 else rest[-1]
        x = 1 if number == 12 else rest[0]
        if c not in (1, 2) or x not in range(1, 1001):
            return [-22]
        if number == 13:
            return [self.class_with(readings + [x])]
        if number == 12:
            found = [x for x in range(1, 1001) if 0 < self.class_with(readings + [x]) <= c]
        else:
            so = [0 < self.class_with(readings + [x] * k) <= c for k in range(11)]
            found = [k for k in range(11) if so[k] == (number == 14)]
        if not found:
            return [-33]
        return [max(found) if number == 12 else min(found)]

    def of_area(self, number, i, rest):
        readings, its = self.readings(i), self.class_(i)
        if number == 6:
            return [its, int(i in self.open_())]
        if number == 9:
            return [self.shut_for(i)] if its in (1, 2) else [-33]
        if number == 16:
            looked = readings[::-1][:10]
            return [len([x for x in looked if x > rest[0]]), len(looked)] if 0 < rest[0] < 1001 else [-22]
        if number == 20:
            shut_by_rain = 8 if self.shut_for(i) else 0
            if len(readings) < 5:
                return [shut_by_rain]
            beyond = [self.product(readings) > self.told[k] ** 5 for k in (0, 1)]
            return [beyond[0] * 1 + (self.peaks(readings) > 1) * 2 + beyond[1] * 4 + shut_by_rain]
        if number == 21:
            return [len(readings[-10:])] + readings[-10:][::-1]
        if len(readings) < 5 or number == 17 and len(self.readings(rest[0])) < 5:
            return [-6]
        if number == 17:
            one, other = self.product(readings), self.product(self.readings(rest[0]))
            return [1 if one > other else 2 if other > one else 0]
        if number == 10:
            return [self.root(self.product(readings)), self.product(readings)]
        return [sum(readings[-5:]) // 5, sum(readings[-5:])]


class Dice:
    """Numbers without order, the same each time."""

    def __init__(self, seed):
        self.state = seed * 7919 + 1

    def below(self, n):
        self.state = (self.state * 6364136223846793005 + 1442695040888963407) % 2 ** 64
        return (self.state >> 33) % n

    def among(self, choices):
        return choices[self.below(len(choices))]


AREAS = (0, 0, 0, 1, 1, 2, 5, 6, TOP)
READINGS = (0, 1, 1, 2, 3, 4, 5, 6, 8, 9, 1000, 1001, TOP)
CLASSES = (0, 1, 1, 1, 1, 2, 2, 2, 3, TOP)
NUMBERS = tuple(range(1, 23)) + (2,) * 18 + (3, 3, 1, 1, 5)
TAKES = {
    2: (AREAS, READINGS), 4: ((0, 1, 2, 3, 1000, 1001, TOP),), 5: ((0, 1, 1, 1, 2, 3, 100, 101, TOP),),
    12: (AREAS, CLASSES), 13: (AREAS, READINGS), 14: (AREAS, READINGS, CLASSES), 15: (AREAS, READINGS, CLASSES),
    16: (AREAS, READINGS), 17: (AREAS, AREAS),
}
BOUNDS = ((3, 4, 4, 0), (4, 4, 6, 9), (5, 6, 8), (1, 2), (0, 3, 7))


def walk(seed):
    dice = Dice(seed)
    calls = []
    for _ in range(256):
        if dice.below(80) == 0 or not calls:
            calls.append(begin(*[dice.among(few) for few in BOUNDS]))
        else:
            number = dice.among(NUMBERS)
            takes = TAKES.get(number, (AREAS,) if number in OF_AREA else ())
            calls.append([number] + [dice.among(few) for few in takes])
    return calls


def drawn_readings(seed):
    dice = Dice(seed)
    top = dice.among((2, 5, 20, 100, 1000))
    return [1 + dice.below(top) for _ in range(dice.among((4, 5, 6, 9, 10, 12)))]


class Walks(unittest.TestCase):
    def test_all_23_calls_are_among_them_and_each_answer_too(self):
        seen = {(call[0], reply[0] if reply[0] < 0 else 0)
                for seed in range(60) for call, reply in zip(walk(seed), ask(walk(seed)))}
        told = {(number, refusal) for number, refusal in seen if refusal != -11}
        due = {number: (0,) for number in (0, 7, 8, 19, 22)}
        due.update({0: (0, -22), 1: (0, -28), 2: (0, -2, -22), 3: (0, -2, -6), 4: (0, -22), 5: (0, -22)})
        due.update({6: (0, -2), 9: (0, -2, -33), 10: (0, -2, -6), 11: (0, -2, -6), 12: (0, -2, -22, -33)})
        due.update({13: (0, -2, -22), 14: (0, -2, -22, -33), 15: (0, -2, -22, -33), 16: (0, -2, -22)})
        due.update({17: (0, -2, -6), 18: (0, -6), 20: (0, -2), 21: (0, -2)})
        self.assertEqual(told, {(number, refusal) for number in due for refusal in due[number]})

    def test_as_the_slow_telling(self):
        for seed in range(100):
            calls = walk(seed)
            slow = Slow()
            expected = [slow.answer(call) for call in calls]
            with self.subTest(seed=seed):
                self.assertEqual(ask(calls), expected)

    def test_handed_in_is_the_same_and_a_second_time_gives_the_same(self):
        for seed in range(40):
            handed = [number for call in walk(seed) for number in call]
            kept = list(handed)
            first = answers(handed)
            self.assertEqual(handed, kept)
            self.assertEqual(answers(handed), first)

    def test_without_what_is_refused_or_looks_all_else_is_the_same(self):
        for seed in range(60, 120):
            told = list(zip(walk(seed), ask(walk(seed))))
            kept = [(call, reply) for call, reply in told if reply[0] >= 0 and call[0] in CHANGE]
            with self.subTest(seed=seed):
                self.assertEqual(ask([call for call, reply in kept]), [reply for call, reply in kept])

    def test_rain_never_opens(self):
        for seed in range(120, 150):
            calls = walk(seed)
            for at in range(10, 250, 12):
                told = ask(calls[:at] + [open_(), rainfall(1000), open_(), shut()])
                if told[-1] != [-11]:
                    self.assertLessEqual(set(told[-2][1:]), set(told[-4][1:]))


class WhatHolds(unittest.TestCase):
    def test_the_mean_is_no_more_than_the_common_one(self):
        for seed in range(400):
            calls = [begin(), area()] + read_all(0, drawn_readings(seed) + [1 + seed])
            told = ask(calls + [mean(0), evenly(0)])[-2:]
            self.assertLessEqual(3125 * told[0][1], told[1][1] ** 5)
            self.assertLessEqual(told[0][0], told[1][0])

    def test_in_whatever_order_the_last_five_were_read(self):
        for seed in range(12):
            readings = drawn_readings(seed) + [1 + seed]
            told = [ask([begin(30, 60, 100), area()] + read_all(0, readings[:-5] + list(five)) + [mean(0), class_(0)])
                    for five in itertools.permutations(readings[-5:])]
            self.assertEqual([replies[-2:] for replies in told], [told[0][-2:]] * 120)

    def test_what_the_mean_is_within_it_is_told_to_be_within(self):
        for seed in range(200):
            readings = drawn_readings(seed) + [1 + seed]
            its = last([begin(), area()] + read_all(0, readings) + [mean(0)])
            for m in {max(1, its[0] - 1), its[0], min(1000, its[0] + 1)}:
                calls = [begin(m, m, 1000), area()] + read_all(0, readings) + [class_(0)]
                self.assertEqual(last(calls)[0], 1 if its[1] <= m ** 5 else 3)

    def test_a_lesser_reading_makes_no_class_worse(self):
        for seed in range(60):
            readings = drawn_readings(seed)
            bounds = begin(1 + seed, 40 + 2 * seed, 1 + 7 * seed)
            calls = [bounds, area()] + read_all(0, readings)
            told = ask(calls + [would(0, x) for x in range(1, 1001, 5)])[len(calls):]
            self.assertEqual(told, sorted(told))

    def test_a_lesser_reading_in_any_place_makes_no_class_worse(self):
        for seed in range(60):
            readings = drawn_readings(seed) + [1 + seed]
            bounds = begin(1 + seed, 40 + 2 * seed, 1 + 7 * seed)
            its = last([bounds, area()] + read_all(0, readings) + [class_(0)])[0]
            for at, x in enumerate(readings):
                lesser = readings[:at] + [(x + 1) // 2] + readings[at + 1:]
                self.assertLessEqual(last([bounds, area()] + read_all(0, lesser) + [class_(0)])[0], its)

    def test_up_to_the_greatest_it_is_so_and_with_one_more_not(self):
        for seed in range(300):
            calls = [begin(1 + seed, 40 + 2 * seed, 1 + 3 * seed), area()] + read_all(0, drawn_readings(seed))
            for c in (1, 2):
                found = last(calls + [greatest(0, c)])[0]
                if found > 0:
                    self.assertIn(last(calls + [read(0, found)])[0], range(1, c + 1))
                if found < 1000:
                    self.assertNotIn(last(calls + [read(0, max(0, found) + 1)])[0], range(1, c + 1))


if __name__ == "__main__":
    unittest.main()
