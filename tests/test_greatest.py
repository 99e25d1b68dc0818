import itertools

from tests.helper import (
    TOP, Case, area, ask, begin, class_, greatest, last, lasts, needs, rainfall, read, read_all, reads, would,
)

ONE = [begin(), area()]
SOME = ((), (1,), (1, 2, 3), (1, 1, 1, 1), (9, 9, 9, 9), (20, 20, 20, 20, 20), (1000,) * 5, (51, 51, 1, 1, 1, 1),
        (51, 1, 1, 1, 1, 1, 1, 1, 1, 51), (3, 60, 2, 8, 4, 10, 11, 1, 1, 700, 1, 1))


def greatest_of(readings, **told):
    calls = [begin(**told), area()] + read_all(0, readings)
    return [x for reply in ask(calls + [greatest(0, 1), greatest(0, 2)])[-2:] for x in reply]


class Greatest(Case):
    def test_class_1_beside_class_2(self):
        self.assertEqual(greatest_of((10, 10, 10, 10)), [10, 320])
        self.assertEqual(greatest_of((9, 9, 9, 9)), [15, 487])
        self.assertEqual(greatest_of((20, 20, 20, 20)), [-33, 20])

    def test_with_fewer_than_four_none(self):
        for count in range(4):
            with self.subTest(count=count):
                self.assertEqual(greatest_of([1] * count), [-33, -33])
                self.assertEqual(greatest_of([1] * count, good=1000, fair=1000, peak=1000), [-33, -33])

    def test_with_four(self):
        self.assertEqual(greatest_of((2, 2, 2, 2), good=2, fair=3), [2, 15])
        self.assertEqual(greatest_of((1, 1, 1, 1), good=2, fair=3), [32, 243])

    def test_1000(self):
        self.assertEqual(greatest_of((1, 1, 1, 1)), [1000, 1000])
        self.assertEqual(greatest_of((1000,) * 4, good=1000, fair=1000, peak=1000), [1000, 1000])
        self.assertEqual(greatest_of((1000,) * 4, good=999, fair=1000, peak=1000), [995, 1000])

    def test_no_more_than_1000_at_the_edge(self):
        self.assertEqual(greatest_of((1, 1, 10, 10)), [1000, 1000])
        self.assertEqual(greatest_of((1, 2, 10, 10)), [500, 1000])
        self.assertEqual(greatest_of((1, 1, 7, 11), good=6, fair=6), [100, 100])

    def test_1(self):
        self.assertEqual(greatest_of((1, 1, 1, 1), good=1, fair=1), [1, 1])
        self.assertEqual(greatest_of((10, 10, 10, 100)), [1, 32])
        self.assertEqual(greatest_of((20, 20, 20, 400), good=20, peak=1000), [1, 1])

    def test_none(self):
        self.assertEqual(greatest_of((1, 1, 1, 2), good=1, fair=1), [-33, -33])
        self.assertEqual(greatest_of((10, 10, 10, 101)), [-33, 31])
        self.assertEqual(greatest_of((20, 20, 20, 401), good=20, peak=1000), [-33, -33])
        self.assertEqual(greatest_of((1000,) * 4), [-33, -33])

    def test_the_oldest_of_five_does_not_count(self):
        self.assertEqual(greatest_of((1000, 10, 10, 10, 10)), [10, 320])
        self.assertEqual(greatest_of([1000] * 9 + [10, 10, 10, 10], peak=1000), [10, 320])

    def test_the_peak_and_not_the_mean(self):
        self.assertEqual(greatest_of((51, 1, 1, 1, 1)), [50, 1000])
        self.assertEqual(greatest_of((50, 1, 1, 1, 1)), [1000, 1000])
        self.assertEqual(greatest_of((51, 1, 1, 1), peak=50), [50, 1000])
        self.assertEqual(greatest_of((51, 1, 1, 1), peak=51), [1000, 1000])

    def test_two_above_the_peak_leave_none_of_class_1(self):
        self.assertEqual(greatest_of((51, 51, 1, 1, 1, 1)), [-33, 1000])
        self.assertEqual(greatest_of([51, 51] + [1] * 7), [-33, 1000])
        self.assertEqual(greatest_of([51, 51] + [1] * 8), [50, 1000])
        self.assertEqual(greatest_of([51, 51] + [1] * 9), [1000, 1000])

    def test_the_tenth_from_the_end_is_not_looked_at_any_more(self):
        self.assertEqual(greatest_of([51] + [1] * 8), [50, 1000])
        self.assertEqual(greatest_of([51] + [1] * 9), [1000, 1000])

    def test_all_above_the_peak_with_one_alone(self):
        self.assertEqual(greatest_of((1, 1, 1, 1), good=3, fair=5, peak=1), [243, 1000])
        self.assertEqual(greatest_of((1, 1, 1, 2), good=3, fair=5, peak=1), [1, 1000])

    def test_good_and_fair_the_same(self):
        self.assertEqual(greatest_of((10, 10, 10, 10), good=10, fair=10), [10, 10])
        self.assertEqual(greatest_of((51, 1, 1, 1, 1), good=10, fair=10), [50, 1000])

    def test_shut_by_rain_is_the_same(self):
        self.answers_last(ONE + read_all(0, (9, 9, 9, 9)) + [rainfall(30), greatest(0, 1)], [15])

    def test_with_60(self):
        calls = ONE + read_all(0, [9] * 60)
        self.answers_end(calls + [greatest(0, 1), greatest(0, 2), read(0, 9)], [[15], [487], [-28]])

    def test_up_to_it_so_and_with_one_more_not(self):
        for readings, good, peak in itertools.product(SOME, (1, 10, 31), (1, 10, 1000)):
            calls = [begin(good=good, fair=31, peak=peak), area()] + read_all(0, readings)
            for c in (1, 2):
                found = max(0, last(calls + [greatest(0, c)])[0])
                for x in {1, found // 2, found - 1, found} & set(range(1, found + 1)):
                    self.assertIn(last(calls + [read(0, x)])[0], range(1, c + 1))
                for x in {found + 1, (found + 1001) // 2, 1000} & set(range(found + 1, 1001)):
                    self.assertNotIn(last(calls + [read(0, x)])[0], range(1, c + 1))


class Would(Case):
    def test_each_class(self):
        calls = ONE + read_all(0, (10, 10, 10, 10))
        for x, expected in ((1, 1), (10, 1), (11, 2), (320, 2), (321, 3), (1000, 3)):
            self.answers_last(calls + [would(0, x)], [expected])

    def test_with_fewer_than_four_class_0(self):
        for count in range(4):
            self.answers_end(ONE + read_all(0, [1] * count) + [would(0, 1), would(0, 1000)], [[0], [0]])
        self.answers_end(ONE + read_all(0, [1] * 4) + [would(0, 1)], [[1]])

    def test_the_peak(self):
        calls = ONE + read_all(0, (51, 1, 1, 1, 1))
        self.answers_end(calls + [would(0, 50), would(0, 51)], [[1], [2]])
        self.answers_last(ONE + read_all(0, [51] + [1] * 9) + [would(0, 51)], [1])

    def test_is_the_class_when_read(self):
        for readings in SOME:
            calls = ONE + read_all(0, readings)
            for x in (1, 2, 9, 10, 11, 20, 21, 50, 51, 52, 999, 1000):
                self.assertEqual(last(calls + [would(0, x)]), last(calls + [read(0, x)])[:1])

    def test_a_lesser_reading_makes_no_class_worse(self):
        for readings in SOME:
            calls = ONE + read_all(0, readings)
            told = ask(calls + [would(0, x) for x in (1, 5, 9, 10, 11, 20, 21, 50, 51, 99, 320, 1000)])[len(calls):]
            self.assertEqual(told, sorted(told))

    def test_with_60(self):
        calls = ONE + read_all(0, [9] * 60)
        self.answers_end(calls + [would(0, 15), would(0, 16), class_(0), read(0, 9)], [[1], [2], [1, 1], [-28]])


class Refused(Case):
    def test_a_class_of_0_1_2_3(self):
        calls = ONE + read_all(0, (9, 9, 9, 9))
        for c, expected in ((0, -22), (1, 15), (2, 487), (3, -22), (4, -22), (TOP, -22)):
            self.answers_last(calls + [greatest(0, c)], [expected])

    def test_a_reading_of_0_1_1000_1001(self):
        calls = ONE + read_all(0, (9, 9, 9, 9))
        for x, expected in ((0, -22), (1, 1), (1000, 3), (1001, -22), (TOP, -22)):
            self.answers_last(calls + [would(0, x)], [expected])

    def test_no_such_area_ahead_of_out_of_range(self):
        for i in (1, TOP):
            for wrong in (0, 1001, TOP):
                self.answers_end(ONE + [greatest(i, wrong), would(i, wrong)], [[-2], [-2]])

    def test_out_of_range_ahead_of_none(self):
        self.answers_end(ONE + [greatest(0, 0), greatest(0, 3), greatest(0, 1)], [[-22], [-22], [-33]])

    def test_changes_nothing(self):
        calls = ONE + [area()] + read_all(0, (9, 9, 9, 9))
        wrong = [greatest(0, 0), greatest(0, 3), greatest(1, 1), greatest(2, 1), would(0, 0), would(0, 1001)]
        wrong += [would(2, 1)]
        self.changes_nothing(calls, wrong, [[-22], [-22], [-33], [-2], [-22], [-22], [-2]])

    def test_looking_changes_nothing(self):
        calls = ONE + [area()] + read_all(0, (9, 9, 9, 9))
        looking = [greatest(0, 1), would(0, 16), greatest(0, 2), would(1, 5), reads(0), reads(1)]
        self.changes_nothing(calls, looking, [[15], [2], [487], [0], [4, 9, 9, 9, 9], [0]])


class AllThatLookAhead(Case):
    def test_a_full_area_is_left_as_it_was(self):
        calls = ONE + read_all(0, [60] * 50 + [9] * 10)
        looking = [greatest(0, 1), would(0, 9), needs(0, 60, 1), lasts(0, 60, 1)]
        self.changes_nothing(calls, looking, [[15], [1], [0], [1]])
