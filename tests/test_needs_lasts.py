import itertools

from tests.helper import TOP, Case, area, ask, back, begin, class_, last, lasts, needs, rainfall, read_all, reads

ONE = [begin(), area()]


def needs_of(readings, x, **told):
    calls = [begin(**told), area()] + read_all(0, readings)
    return [reply for replies in ask(calls + [needs(0, x, 1), needs(0, x, 2)])[-2:] for reply in replies]


def lasts_of(readings, x, **told):
    calls = [begin(**told), area()] + read_all(0, readings)
    return [reply for replies in ask(calls + [lasts(0, x, 1), lasts(0, x, 2)])[-2:] for reply in replies]


class Needs(Case):
    def test_0_it_is(self):
        self.assertEqual(needs_of((10,) * 5, 1), [0, 0])
        self.assertEqual(needs_of((10,) * 5, 1000), [0, 0])
        self.assertEqual(needs_of((20,) * 5, 1)[1], 0)

    def test_1(self):
        self.assertEqual(needs_of((10, 10, 10, 10, 11), 9), [1, 0])
        self.assertEqual(needs_of((21, 20, 20, 20, 20), 20), [-33, 1])
        self.assertEqual(needs_of((1, 1, 1, 1), 1000), [1, 1])

    def test_in_between(self):
        self.assertEqual(needs_of((20,) * 5, 1), [2, 0])
        self.assertEqual(needs_of((40,) * 5, 1), [2, 1])
        self.assertEqual(needs_of((40,) * 5, 5), [4, 2])

    def test_with_no_reading_five(self):
        self.assertEqual(needs_of((), 1), [5, 5])
        self.assertEqual(needs_of((), 10), [5, 5])
        self.assertEqual(needs_of((), 11), [-33, 5])
        self.assertEqual(needs_of((), 20), [-33, 5])
        self.assertEqual(needs_of((), 21), [-33, -33])

    def test_with_fewer_than_five_at_least_the_fifth(self):
        for count in range(5):
            self.assertEqual(needs_of([1] * count, 1), [5 - count, 5 - count])
        self.assertEqual(needs_of((1, 1, 1, 1), 10), [1, 1])
        self.assertEqual(needs_of((40, 40, 40, 40), 1, peak=1000), [2, 1])

    def test_it_takes_all_five(self):
        self.assertEqual(needs_of((20, 20, 20, 20, 21), 20), [-33, 5])
        self.assertEqual(needs_of((1000,) * 5, 10, peak=1000), [5, 5])
        self.assertEqual(needs_of((1000,) * 5, 20, peak=1000), [-33, 5])

    def test_till_the_peak_is_over(self):
        self.assertEqual(needs_of((51, 51, 1, 1, 1, 1), 1), [5, 0])
        self.assertEqual(needs_of((1, 1, 1, 51, 51), 1), [9, 0])
        self.assertEqual(needs_of([51] * 10, 1), [9, 2])
        self.assertEqual(needs_of([51] * 60, 10), [9, 3])
        self.assertEqual(needs_of([1] * 8 + [51, 1, 51], 1), [8, 0])

    def test_never(self):
        self.assertEqual(needs_of((20,) * 5, 11), [-33, 0])
        self.assertEqual(needs_of((21,) * 5, 21), [-33, -33])
        self.assertEqual(needs_of((1000,) * 60, 1000), [-33, -33])
        self.assertEqual(needs_of((2, 2, 2, 2, 2), 2, peak=1), [-33, 0])
        self.assertEqual(needs_of((2, 2), 2, peak=1), [-33, 3])

    def test_so_on_the_way_counts_though_not_so_with_ten(self):
        self.assertEqual(needs_of((1, 1, 1, 1), 50), [1, 1])
        self.assertEqual(needs_of((1, 1, 1), 50), [2, 2])
        self.assertEqual(needs_of((60, 1, 1, 1, 60, 1, 1, 1, 1, 1), 40), [1, 0])

    def test_shut_by_rain_is_the_same(self):
        self.answers_last(ONE + [rainfall(30), needs(0, 1, 1)], [5])

    def test_with_60(self):
        self.assertEqual(needs_of([40] * 60, 5), [4, 2])
        self.assertEqual(needs_of([40] * 60, 21), [-33, -33])


class Lasts(Case):
    def test_0_it_is_not(self):
        self.assertEqual(lasts_of((20,) * 5, 1)[0], 0)
        self.assertEqual(lasts_of((21,) * 5, 1), [0, 0])
        for count in range(5):
            self.assertEqual(lasts_of([1] * count, 1), [0, 0])

    def test_1(self):
        self.assertEqual(lasts_of((10,) * 5, 11), [1, -33])
        self.assertEqual(lasts_of((20,) * 5, 21), [0, 1])
        self.assertEqual(lasts_of((10,) * 5, 321), [1, 1])
        self.assertEqual(lasts_of((51, 1, 1, 1, 1), 51)[0], 1)

    def test_in_between(self):
        self.assertEqual(lasts_of((1,) * 5, 40), [4, 5])
        self.assertEqual(lasts_of((1,) * 5, 1000, peak=1000), [2, 3])

    def test_at_most_all_five(self):
        self.assertEqual(lasts_of((1,) * 5, 11), [5, -33])
        self.assertEqual(lasts_of((1,) * 5, 21), [4, 5])
        self.assertEqual(lasts_of((1,) * 60, 21), [4, 5])

    def test_till_the_peak(self):
        self.assertEqual(lasts_of((1,) * 5, 9, peak=8), [2, -33])
        self.assertEqual(lasts_of((9, 1, 1, 1, 1), 9, peak=8), [1, -33])
        self.assertEqual(lasts_of([9] + [1] * 8, 9, peak=8), [1, -33])
        self.assertEqual(lasts_of([9] + [1] * 9, 9, peak=8), [2, -33])

    def test_never(self):
        self.assertEqual(lasts_of((1,) * 5, 10), [-33, -33])
        self.assertEqual(lasts_of((10,) * 5, 10), [-33, -33])
        self.assertEqual(lasts_of((20,) * 5, 20)[1], -33)
        self.assertEqual(lasts_of((1000,) * 5, 1000, good=1000, fair=1000, peak=1000), [-33, -33])

    def test_not_so_on_the_way_counts_though_so_with_ten(self):
        self.assertEqual(lasts_of((1, 16, 16, 16, 16), 8, peak=1000), [1, -33])
        self.assertEqual(lasts_of((1, 30, 30, 30, 30), 15, peak=1000), [0, 1])

    def test_shut_by_rain_is_the_same(self):
        self.answers_last(ONE + read_all(0, (10,) * 5) + [rainfall(30), lasts(0, 11, 1)], [1])

    def test_with_60(self):
        self.assertEqual(lasts_of([10] * 60, 11), [1, -33])
        self.assertEqual(lasts_of([10] * 60, 10), [-33, -33])


class Both(Case):
    def readings_of(self):
        few = itertools.product((1, 4, 6, 9), repeat=3)
        return [a * k + b for a, b, k in itertools.product(few, ((), (6, 6), (1, 9, 1)), (0, 1, 4))]

    def of_class(self, readings, x, count, c):
        calls = [begin(4, 6, 5), area()] + read_all(0, list(readings) + [x] * count)
        return last(calls + [class_(0)])[0] in range(1, c + 1)

    def test_as_read_one_behind_another(self):
        for readings in self.readings_of()[::7]:
            for x, c in itertools.product((1, 4, 5, 6, 7, 30), (1, 2)):
                told = ask([begin(4, 6, 5), area()] + read_all(0, readings) + [needs(0, x, c), lasts(0, x, c)])[-2:]
                so = [self.of_class(readings, x, count, c) for count in range(11)]
                self.assertEqual(told[0], [so.index(True) if True in so else -33])
                self.assertEqual(told[1], [so.index(False) if False in so else -33])

    def test_one_of_both_is_0(self):
        for readings in self.readings_of():
            calls = [begin(4, 6, 5), area()] + read_all(0, readings)
            for x, c in itertools.product((1, 5, 7), (1, 2)):
                told = ask(calls + [needs(0, x, c), lasts(0, x, c)])[-2:]
                self.assertEqual(told.count([0]), 1)

    def test_the_tenth_reading_decides_nothing(self):
        # With nine of x no more than one of the ten looked at is another, so the tenth makes it neither so nor not so.
        for readings in self.readings_of():
            calls = [begin(4, 6, 5), area()] + read_all(0, readings)
            for x, c in itertools.product((1, 4, 5, 6, 7), (1, 2)):
                told = ask(calls + [needs(0, x, c), lasts(0, x, c)])[-2:]
                self.assertLessEqual(told[0][0], 9)
                self.assertLessEqual(told[1][0], 5)
                if told[0] == [-33]:
                    self.assertEqual(last(calls + read_all(0, [x] * 10) + [needs(0, x, c)]), [-33])
                if told[1] == [-33]:
                    self.assertEqual(last(calls + read_all(0, [x] * 10) + [lasts(0, x, c)]), [-33])


class Refused(Case):
    def test_a_reading_of_0_1_1000_1001(self):
        calls = ONE + read_all(0, (10,) * 5)
        for x, expected in ((0, [[-22], [-22]]), (1, [[0], [-33]]), (1000, [[0], [1]]), (1001, [[-22], [-22]]),
                            (TOP, [[-22], [-22]])):
            with self.subTest(x=x):
                self.answers_end(calls + [needs(0, x, 1), lasts(0, x, 1)], expected)

    def test_a_class_of_0_1_2_3(self):
        calls = ONE + read_all(0, (20,) * 5)
        for c, expected in ((0, [[-22], [-22]]), (1, [[2], [0]]), (2, [[0], [-33]]), (3, [[-22], [-22]]),
                            (4, [[-22], [-22]]), (TOP, [[-22], [-22]])):
            with self.subTest(c=c):
                self.answers_end(calls + [needs(0, 1, c), lasts(0, 1, c)], expected)

    def test_both_wrong(self):
        self.answers_end(ONE + [needs(0, 0, 0), lasts(0, TOP, TOP)], [[-22], [-22]])

    def test_no_such_area_ahead_of_out_of_range(self):
        for i in (1, 6, TOP):
            for x, c in ((0, 1), (1, 0), (1001, 3), (TOP, TOP), (1, 1)):
                self.answers_end(ONE + [needs(i, x, c), lasts(i, x, c)], [[-2], [-2]])

    def test_out_of_range_ahead_of_never(self):
        never = ONE + read_all(0, (21,) * 5)
        self.answers_end(never + [needs(0, 21, 3), needs(0, 1001, 1), needs(0, 21, 2)], [[-22], [-22], [-33]])
        always = ONE + read_all(0, (1,) * 5)
        self.answers_end(always + [lasts(0, 1, 3), lasts(0, 0, 1), lasts(0, 1, 1)], [[-22], [-22], [-33]])

    def test_changes_nothing(self):
        calls = ONE + [area()] + read_all(0, (9, 9, 9, 9, 51))
        wrong = [needs(0, 0, 1), needs(0, 1, 3), needs(2, 1, 1), needs(1, 1000, 2), lasts(0, 1001, 1), lasts(0, 1, 0),
                 lasts(2, 1, 1), lasts(0, 1, 2)]
        self.changes_nothing(calls, wrong, [[-22], [-22], [-2], [-33], [-22], [-22], [-2], [-33]])

    def test_looking_changes_nothing(self):
        calls = ONE + [area()] + read_all(0, (9, 9, 9, 9, 51))
        looking = [needs(0, 1, 1), needs(1, 5, 2), lasts(0, 1000, 2), lasts(1, 3, 1), reads(0), reads(1)]
        self.changes_nothing(calls, looking, [[1], [5], [1], [0], [5, 51, 9, 9, 9, 9], [0]])

    def test_after_a_reading_is_taken_back(self):
        calls = ONE + read_all(0, (10,) * 4 + (11,))
        self.answers_end(calls + [needs(0, 9, 1), back(0), needs(0, 9, 1), lasts(0, 9, 1)], [[1], [11, 0], [1], [0]])
