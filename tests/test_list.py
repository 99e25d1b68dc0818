"""The list that is handed in and the list that is given back, and long walks beside a slow second telling."""

import unittest

from shorewaters.waters import answers
from tests.helper import TOP, area, ask, back, begin, class_, days, evenly, mean, open_, opens, rainfall, read, shut


def refuse(*told):
    raise AssertionError("what is handed in was changed")


class Guarded(list):
    """A list that lets nobody change it, not for a while either."""
    append = extend = insert = pop = remove = clear = sort = reverse = refuse
    __setitem__ = __delitem__ = __iadd__ = __imul__ = refuse


def flat(calls):
    return [number for call in calls for number in call]


ALL_TWELVE = flat([
    begin(), area(), area(), read(0, 1), read(0, 2), read(0, 3), read(0, 4), read(0, 5), read(0, 6), back(0),
    days(3), class_(0), open_(), rainfall(26), shut(), days(1), opens(0), mean(0), evenly(0), mean(1), read(7, 7),
])
THEIR_ANSWERS = [
    1, 0, 1, 0, 1, 1, 2, 0, 0, 2, 0, 0, 2, 0, 0, 2, 0, 0, 2, 1, 0, 2, 1, 1, 2, 6, 1,
    2, 3, 1, 2, 1, 1, 2, 1, 0, 1, 5, 3, 2, 0, 1, 2, 4, 0, 1, 4, 2, 2, 120, 2, 3, 15, 1, -6, 1, -2,
]


class TheList(unittest.TestCase):
    def test_counts_stand_ahead(self):
        self.assertEqual(answers(ALL_TWELVE), THEIR_ANSWERS)

    def test_one_call(self):
        self.assertEqual(answers([0, 1, 1, 1, 0, 0]), [1, 0])
        self.assertEqual(answers([0, 0, 1, 1, 0, 0]), [1, -22])
        self.assertEqual(answers([7]), [1, -11])

    def test_handed_in_is_not_changed(self):
        handed = Guarded(ALL_TWELVE)
        answers(handed)
        self.assertEqual(list(handed), ALL_TWELVE)

    def test_a_second_time_gives_the_same(self):
        handed = list(ALL_TWELVE)
        first = answers(handed)
        answers(flat([begin(1, 1, 1, 0, 60), area(), rainfall(1), days(100), read(0, 9)]))
        self.assertEqual(answers(handed), first)
        self.assertEqual(answers(flat([area(), days(1)])), [1, -11, 1, -11])

    def test_given_back_is_another_list_each_time(self):
        first = answers(ALL_TWELVE)
        first.append(5)
        self.assertEqual(answers(ALL_TWELVE), THEIR_ANSWERS)

    def test_256_calls_and_1536_numbers(self):
        handed = flat([begin()] * 256)
        self.assertEqual(len(handed), 1536)
        self.assertEqual(answers(handed), [1, 0] * 256)

    def test_greatest_numbers_in_every_place(self):
        told = ask([
            begin(), area(), read(TOP, 1), read(0, TOP), read(TOP, TOP), back(TOP), rainfall(TOP), days(TOP),
            class_(TOP), opens(TOP), mean(TOP), evenly(TOP), begin(good=TOP), begin(fair=TOP), begin(peak=TOP),
            begin(rain=TOP), begin(days=TOP), area(),
        ])
        self.assertEqual(told, [[0], [0], [-2], [-22], [-2], [-2], [-22], [-22]] + [[-2]] * 4 + [[-22]] * 5 + [[1]])

    def test_calls_not_written_yet_answer_nothing_made_up(self):
        for call in ([12, 0, 1], [13, 0, 1], [14, 0, 1, 1], [15, 0, 1, 1], [16, 0, 1], [17, 0, 0], [18], [19],
                     [20, 0], [21, 0], [22]):
            with self.subTest(call=call):
                self.assertRaises(NotImplementedError, answers, flat([begin(), area(), call]))


class Slow:
    """The same told once more, from all that was done since the last begin, with nothing else kept."""

    def __init__(self):
        self.told = None

    def day(self):
        return sum(n for kind, i, n in self.done if kind == "days")

    def count(self):
        return len([1 for kind, i, n in self.done if kind == "area"])

    def readings(self, i):
        found = []
        for kind, k, x in self.done:
            if kind == "read" and k == i:
                found = found + [x]
            if kind == "back" and k == i:
                found = found[:-1]
        return found

    def shut_for(self, i):
        today, born, until = 0, 0, 0
        for kind, k, n in self.done:
            today += n if kind == "days" else 0
            born += 1 if kind == "area" else 0
            if kind == "rain" and born > i:
                until = max(until, today + self.told[4])
        return max(0, until - today)

    def product(self, i):
        product = 1
        for x in self.readings(i)[::-1][:5]:
            product *= x
        return product

    def class_(self, i):
        if len(self.readings(i)) < 5:
            return 0
        peaks = sum(x > self.told[2] for x in self.readings(i)[::-1][:10])
        if self.product(i) <= self.told[0] ** 5 and peaks < 2:
            return 1
        return 2 if self.product(i) <= self.told[1] ** 5 else 3

    def open_(self):
        return [i for i in range(self.count()) if self.class_(i) in (1, 2) and self.shut_for(i) == 0]

    def answer(self, call):
        number, rest = call[0], call[1:]
        if number == 0:
            return self.begin(rest)
        if self.told is None:
            return [-11]
        if number in (2, 3, 6, 9, 10, 11):
            return self.of_area(number, rest[0], rest[1:]) if rest[0] < self.count() else [-2]
        return self.of_all(number, rest)

    def begin(self, rest):
        good, fair, peak, rain, shuts = rest
        if not (0 < good <= fair < 1001 and 0 < peak < 1001 and rain < 1001 and shuts < 61):
            return [-22]
        self.told, self.done = rest, []
        return [0]

    def of_all(self, number, rest):
        if number == 1:
            if self.count() == 6:
                return [-28]
            self.done.append(("area", 0, 0))
            return [self.count() - 1]
        if number == 4:
            if rest[0] > 1000:
                return [-22]
            if rest[0] <= self.told[3]:
                return [0]
            self.done.append(("rain", 0, 0))
            return [self.told[4]]
        if number == 5:
            if rest[0] == 0 or rest[0] > 100:
                return [-22]
            if self.day() + rest[0] > 10000:
                return [-75]
            self.done.append(("days", 0, rest[0]))
            return [self.day(), len(self.open_())]
        found = self.open_() if number == 7 else [i for i in range(self.count()) if self.shut_for(i)]
        return [len(found)] + found

    def of_area(self, number, i, rest):
        readings, before = self.readings(i), self.class_(i)
        if number == 2:
            if rest[0] == 0 or rest[0] > 1000:
                return [-22]
            if len(readings) == 60:
                return [-28]
            self.done.append(("read", i, rest[0]))
            return [self.class_(i), before]
        if number == 3:
            if not readings:
                return [-6]
            self.done.append(("back", i, 0))
            return [readings[-1], self.class_(i)]
        if number == 6:
            return [before, int(i in self.open_())]
        if number == 9:
            return [self.shut_for(i)] if before in (1, 2) else [-33]
        if len(readings) < 5:
            return [-6]
        if number == 10:
            return [max(m for m in range(1, 1001) if m ** 5 <= self.product(i)), self.product(i)]
        return [sum(readings[-5:]) // 5, sum(readings[-5:])]


class Dice:
    """Numbers without order, the same each time."""

    def __init__(self, seed):
        self.state = seed * 7919 + 1

    def below(self, n):
        self.state = (self.state * 6364136223846793005 + 1442695040888963407) % 2 ** 64
        return (self.state >> 33) % n

    def among(self, choices):
        return choices[self.below(len(choices))]


def drawn(dice):
    number = dice.among((1, 2, 2, 2, 2, 2, 2, 2, 3, 3, 4, 5, 5, 6, 7, 8, 9, 10, 11))
    i = dice.among((0, 0, 0, 1, 1, 2, 5, 6, TOP))
    if number == 2:
        return [2, i, dice.among((0, 1, 1, 2, 3, 4, 5, 6, 8, 9, 1000, 1001, TOP))]
    if number == 4:
        return [4, dice.among((0, 1, 2, 3, 1000, 1001, TOP))]
    if number == 5:
        return [5, dice.among((0, 1, 1, 1, 2, 3, 100, 101, TOP))]
    return [number, i] if number in (3, 6, 9, 10, 11) else [number]


def walk(seed):
    dice = Dice(seed)
    calls = []
    for _ in range(256):
        if dice.below(80) == 0 or not calls:
            calls.append(begin(*[dice.among(few) for few in ((3, 4, 4, 0), (4, 4, 6, 9), (5, 6, 8), (1, 2), (0, 3, 7))]))
        else:
            calls.append(drawn(dice))
    return calls


class Walks(unittest.TestCase):
    def test_as_the_slow_telling(self):
        for seed in range(60):
            calls = walk(seed)
            slow = Slow()
            expected = [slow.answer(call) for call in calls]
            with self.subTest(seed=seed):
                self.assertEqual(ask(calls), expected)

    def test_without_what_is_refused_or_looks_all_else_is_the_same(self):
        for seed in range(60, 120):
            told = list(zip(walk(seed), ask(walk(seed))))
            kept = [(call, reply) for call, reply in told if reply[0] >= 0 and call[0] in (0, 1, 2, 3, 4, 5)]
            with self.subTest(seed=seed):
                self.assertEqual(ask([call for call, reply in kept]), [reply for call, reply in kept])

    def test_rain_never_opens(self):
        for seed in range(120, 150):
            calls = walk(seed)
            for at in range(10, 250, 12):
                told = ask(calls[:at] + [open_(), rainfall(1000), open_(), shut()])
                if told[-1] != [-11]:
                    self.assertLessEqual(set(told[-2][1:]), set(told[-4][1:]))


if __name__ == "__main__":
    unittest.main()
