import itertools

from tests.helper import (
    TOP, Case, above, area, ask, back, begin, best, days, last, mean, order, rainfall, read, read_all, reads, state,
    worse,
)

ONE = [begin(), area()]


def filled(*rows):
    calls = [begin()] + [area()] * len(rows)
    for i, readings in enumerate(rows):
        calls += read_all(i, readings)
    return calls


class Above(Case):
    def test_how_many_and_of_how_many(self):
        calls = ONE + read_all(0, (5, 1, 9, 5, 7))
        for m, expected in ((1, 4), (4, 4), (5, 2), (6, 2), (7, 1), (8, 1), (9, 0), (1000, 0)):
            self.answers_last(calls + [above(0, m)], [expected, 5])

    def test_none_nine_ten_and_eleven(self):
        for count in (0, 1, 4, 5, 9):
            self.answers_last(ONE + read_all(0, [8] * count) + [above(0, 7)], [count, count])
        for count in (10, 11, 12, 60):
            self.answers_last(ONE + read_all(0, [8] * count) + [above(0, 7)], [10, 10])

    def test_the_last_ten_alone(self):
        self.answers_last(ONE + read_all(0, [9] + [1] * 9) + [above(0, 8)], [1, 10])
        self.answers_last(ONE + read_all(0, [9] + [1] * 10) + [above(0, 8)], [0, 10])
        self.answers_last(ONE + read_all(0, [1] + [9] * 10) + [above(0, 8)], [10, 10])
        self.answers_last(ONE + read_all(0, [9] + [1] * 10) + [back(0), above(0, 8)], [1, 10])

    def test_a_reading_of_0_1_1000_1001(self):
        calls = ONE + read_all(0, (1, 2, 1000))
        for m, expected in ((0, [-22]), (1, [2, 3]), (999, [1, 3]), (1000, [0, 3]), (1001, [-22]), (TOP, [-22])):
            self.answers_last(calls + [above(0, m)], expected)

    def test_no_such_area_first(self):
        for i, m in itertools.product((1, 6, TOP), (0, 1, 1001, TOP)):
            self.answers_last(ONE + [above(i, m)], [-2])

    def test_whatever_the_peak(self):
        self.answers_last([begin(peak=1), area()] + read_all(0, (5, 6)) + [above(0, 5)], [1, 2])


class Reads(Case):
    def test_the_last_first(self):
        self.answers_last(ONE + read_all(0, (5, 1, 9)) + [reads(0)], [3, 9, 1, 5])

    def test_none_nine_ten_and_eleven(self):
        self.answers_last(ONE + [reads(0)], [0])
        self.answers_last(ONE + [read(0, 1000), reads(0)], [1, 1000])
        self.answers_last(ONE + read_all(0, range(1, 10)) + [reads(0)], [9, 9, 8, 7, 6, 5, 4, 3, 2, 1])
        self.answers_last(ONE + read_all(0, range(1, 11)) + [reads(0)], [10, 10, 9, 8, 7, 6, 5, 4, 3, 2, 1])
        self.answers_last(ONE + read_all(0, range(1, 12)) + [reads(0)], [10, 11, 10, 9, 8, 7, 6, 5, 4, 3, 2])
        self.answers_last(ONE + read_all(0, range(1, 61)) + [reads(0)], [10] + list(range(60, 50, -1)))

    def test_taken_back(self):
        calls = ONE + read_all(0, range(1, 12)) + [back(0), reads(0)]
        self.answers_last(calls, [10, 10, 9, 8, 7, 6, 5, 4, 3, 2, 1])
        self.answers_last(calls + [back(0), reads(0)], [9, 9, 8, 7, 6, 5, 4, 3, 2, 1])
        self.answers_last(ONE + [read(0, 3), back(0), reads(0)], [0])

    def test_each_area_has_its_own(self):
        self.answers_end(filled((1, 2), (), (3,)) + [reads(0), reads(1), reads(2)], [[2, 2, 1], [0], [1, 3]])

    def test_what_was_refused_is_not_there(self):
        self.answers_last(ONE + [read(0, 4), read(0, 0), read(0, 1001), reads(0)], [1, 4])
        self.answers_last(ONE + read_all(0, [4] * 60 + [5]) + [reads(0)], [10] + [4] * 10)

    def test_no_such_area(self):
        for i in (1, 6, TOP):
            self.answers_last(ONE + [reads(i)], [-2])


class Worse(Case):
    def test_by_the_product(self):
        calls = filled((1, 1, 1, 1, 9), (2, 2, 2, 1, 1))
        self.answers_end(calls + [worse(0, 1), worse(1, 0)], [[1], [2]])

    def test_beside_one_another_and_with_the_same_mean(self):
        calls = filled((1, 1, 1, 1, 7), (2, 2, 2, 1, 1))
        self.answers_end(calls + [mean(0), mean(1), worse(0, 1), worse(1, 0)], [[1, 7], [1, 8], [2], [1]])

    def test_like_products(self):
        calls = filled((1, 1, 1, 1, 8), (2, 2, 2, 1, 1), (8, 1, 1, 1, 1))
        for i, j in itertools.product(range(3), repeat=2):
            self.answers_last(calls + [worse(i, j)], [0])

    def test_the_sum_does_not_count(self):
        self.answers_last(filled((1, 1, 1, 1, 1000), (5, 5, 5, 5, 5)) + [worse(0, 1)], [2])

    def test_the_last_five_alone(self):
        self.answers_last(filled((1000, 2, 2, 2, 2, 2), (1, 3, 3, 3, 3, 3)) + [worse(0, 1)], [2])

    def test_the_greatest(self):
        calls = filled((1000,) * 5, (999,) + (1000,) * 4)
        self.answers_end(calls + [worse(0, 1), worse(1, 0), worse(0, 0)], [[1], [2], [0]])

    def test_an_area_and_itself(self):
        self.answers_end(filled((3,) * 5, (3,) * 4) + [worse(0, 0), worse(1, 1)], [[0], [-6]])

    def test_fewer_than_five(self):
        for count in range(5):
            calls = filled((3,) * 5, (3,) * count, ())
            self.answers_end(calls + [worse(0, 1), worse(1, 0), worse(1, 2)], [[-6], [-6], [-6]])
        self.answers_last(filled((3,) * 5, (3,) * 5) + [worse(0, 1)], [0])

    def test_no_such_area_ahead_of_too_few(self):
        calls = filled((3,) * 5, ())
        for i, j in ((0, 2), (2, 0), (1, 2), (2, 1), (2, 2), (TOP, 0), (0, TOP), (TOP, TOP)):
            self.answers_last(calls + [worse(i, j)], [-2])
        self.answers_last(filled() + [worse(0, 0)], [-2])


class BestAndOrder(Case):
    def test_no_area(self):
        self.answers_end([begin(), best(), order()], [[-6], [0]])

    def test_one_area(self):
        self.answers_end(filled((7,) * 5) + [best(), order()], [[0, 7], [1, 0]])
        self.answers_end(filled((7,) * 4) + [best(), order()], [[-6], [1, 0]])

    def test_none_has_five(self):
        self.answers_end(filled((), (1,), (1,) * 4, (2,) * 3) + [best(), order()], [[-6], [4, 0, 1, 2, 3]])

    def test_by_the_product(self):
        calls = filled((9,) * 5, (3,) * 5, (5,) * 5)
        self.answers_end(calls + [best(), order()], [[1, 3], [3, 1, 2, 0]])

    def test_by_the_product_where_the_means_are_alike(self):
        calls = filled((1, 1, 1, 1, 31), (1, 1, 1, 1, 30), (1, 1, 1, 1, 29))
        self.answers_end(calls + [best(), order()], [[2, 1], [3, 2, 1, 0]])

    def test_like_products_by_number(self):
        calls = filled((9,) * 5, (1, 1, 1, 1, 8), (2, 2, 2, 1, 1), (1, 8, 1, 1, 1))
        self.answers_end(calls + [best(), order()], [[1, 1], [4, 1, 2, 3, 0]])

    def test_fewer_than_five_between_come_last_by_number(self):
        calls = filled((1,) * 4, (9,) * 5, (), (2,) * 5, (1,) * 3, (9,) * 5)
        self.answers_end(calls + [best(), order()], [[3, 2], [6, 3, 1, 5, 0, 2, 4]])

    def test_fewer_than_five_behind_the_greatest(self):
        self.answers_end(filled((1,) * 4, (1000,) * 5) + [best(), order()], [[1, 1000], [2, 1, 0]])

    def test_six_areas(self):
        calls = filled(*[(x,) * 5 for x in (6, 5, 4, 3, 2, 1)])
        self.answers_end(calls + [best(), order()], [[5, 1], [6, 5, 4, 3, 2, 1, 0]])
        calls = filled(*[(4,) * 5] * 6)
        self.answers_end(calls + [best(), order()], [[0, 4], [6, 0, 1, 2, 3, 4, 5]])

    def test_the_mean_is_rounded_down(self):
        self.answers_last(filled((10, 20, 30, 40, 50)) + [best()], [0, 26])
        self.answers_last(filled((32, 1, 1, 1, 1)) + [best()], [0, 2])

    def test_neither_class_nor_rain_counts(self):
        calls = [begin(), area()] + read_all(0, (51, 51, 1, 1, 1)) + [rainfall(30), area()] + read_all(1, (10,) * 5)
        self.answers_end(calls + [best(), order()], [[0, 4], [2, 0, 1]])

    def test_a_reading_taken_back(self):
        calls = filled((9,) * 5, (3,) * 5)
        self.answers_end(calls + [back(1), best(), order()], [[0, 9], [2, 0, 1]])
        self.answers_end(calls + [back(0), back(1), best(), order()], [[-6], [2, 0, 1]])

    def test_agrees_with_worse(self):
        rows = ((4, 4, 4, 4, 4), (2, 8, 2, 8, 4), (5, 3, 4, 4, 4), (1, 1, 1, 1, 1000), (1000, 4, 4, 4, 4, 3), (4,) * 5)
        for shift in range(6):
            calls = filled(*(rows[shift:] + rows[:shift]))
            found = last(calls + [order()])[1:]
            self.assertEqual(last(calls + [best()])[0], found[0])
            for i, j in zip(found, found[1:]):
                told = last(calls + [worse(i, j)])
                self.assertTrue(told == [2] or told == [0] and i < j)


class State(Case):
    def test_as_told_at_begin(self):
        self.answers_last([begin(3, 5, 7, 11, 13), state()], [0, 0, 3, 5, 7, 11, 13, 0])
        self.answers_last([begin(1000, 1000, 1000, 1000, 60), state()], [0, 0, 1000, 1000, 1000, 1000, 60, 0])
        self.answers_last([begin(1, 1, 1, 0, 0), state()], [0, 0, 1, 1, 1, 0, 0, 0])

    def test_the_day_and_how_many_areas(self):
        calls = [begin(3, 5, 7, 11, 13), days(9), area(), area(), days(100)]
        self.answers_last(calls + [state()], [0, 109, 3, 5, 7, 11, 13, 2])
        self.answers_last(calls + [area()] * 5 + [state()], [0, 109, 3, 5, 7, 11, 13, 6])
        self.answers_last([begin()] + [days(100)] * 101 + [state()], [0, 10000, 10, 20, 50, 25, 5, 0])

    def test_after_another_begin_and_after_one_refused(self):
        calls = [begin(3, 5, 7, 11, 13), days(9), area()]
        self.answers_last(calls + [begin(), state()], [0, 0, 10, 20, 50, 25, 5, 0])
        self.answers_end(calls + [begin(9, 8, 7, 6, 5), state()], [[-22], [0, 9, 3, 5, 7, 11, 13, 1]])

    def test_neither_readings_nor_rain_change_it(self):
        calls = [begin(3, 5, 7, 11, 13), area()]
        told = ask(calls + [state()] + read_all(0, (1,) * 5) + [rainfall(12), back(0), state()])
        self.assertEqual(told[2], told[-1])


class Looking(Case):
    def test_changes_nothing(self):
        calls = filled((1, 2, 3, 4, 5, 6, 7, 8, 9, 10, 11), (1, 2, 3, 4, 51)) + [days(2), rainfall(30)]
        looking = [above(0, 5), worse(0, 1), best(), order(), reads(0), state(), reads(1), worse(1, 0)]
        self.changes_nothing(calls, looking, ask(calls + looking)[len(calls):])

    def test_refused_changes_nothing(self):
        calls = filled((1, 2, 3, 4), ())
        looking = [above(0, 0), above(2, 1), worse(0, 1), worse(0, 2), best(), reads(2)]
        self.changes_nothing(calls, looking, [[-22], [-2], [-6], [-2], [-6], [-2]])
