import itertools

from tests.helper import TOP, Case, area, ask, back, begin, class_, days, last, rainfall, read_all, shut, why

ONE = [begin(), area()]


def why_with(readings, *calls, **told):
    return last([begin(**told), area()] + read_all(0, readings) + list(calls) + [why(0)])


class Why(Case):
    def test_nothing(self):
        self.assertEqual(why_with((10,) * 5), [0])

    def test_not_within_good(self):
        self.assertEqual(why_with((10, 10, 10, 10, 11)), [1])
        self.assertEqual(why_with((20,) * 5), [1])

    def test_more_than_one_above_the_peak(self):
        self.assertEqual(why_with((51, 51, 1, 1, 1)), [2])
        self.assertEqual(why_with((51, 50, 1, 1, 1)), [0])
        self.assertEqual(why_with([51, 51] + [1] * 8), [2])
        self.assertEqual(why_with([51, 51] + [1] * 9), [0])

    def test_not_within_good_nor_above_the_peak(self):
        self.assertEqual(why_with((20,) * 5, peak=19), [3])
        self.assertEqual(why_with((51, 51, 10, 10, 10)), [3])

    def test_not_within_fair(self):
        self.assertEqual(why_with((20, 20, 20, 20, 21)), [5])
        self.assertEqual(why_with((21,) * 5), [5])
        self.assertEqual(why_with((21,) * 5, peak=20), [7])

    def test_4_never_without_1(self):
        self.assertEqual(why_with((11,) * 5, good=10, fair=10), [5])
        self.assertEqual(why_with((10,) * 5, good=10, fair=10), [0])

    def test_shut_by_rain(self):
        rain = rainfall(26)
        self.assertEqual(why_with((10,) * 5, rain), [8])
        self.assertEqual(why_with((10, 10, 10, 10, 11), rain), [9])
        self.assertEqual(why_with((51, 51, 1, 1, 1), rain), [10])
        self.assertEqual(why_with((51, 51, 10, 10, 10), rain), [11])
        self.assertEqual(why_with((21,) * 5, rain), [13])
        self.assertEqual(why_with((100,) * 5, rain), [15])

    def test_till_the_day_on_which_it_opens(self):
        self.assertEqual(why_with((10,) * 5, rainfall(26), days(4)), [8])
        self.assertEqual(why_with((10,) * 5, rainfall(26), days(5)), [0])
        self.assertEqual(why_with((10,) * 5, rainfall(26), days(6)), [0])
        self.assertEqual(why_with((10,) * 5, rainfall(25)), [0])

    def test_fewer_than_five(self):
        for count in range(5):
            with self.subTest(count=count):
                self.assertEqual(why_with([1000] * count), [0])
                self.assertEqual(why_with([1000] * count, rainfall(26)), [8])
                self.assertEqual(why_with([1] * count, rainfall(26)), [8])
        self.assertEqual(why_with([1000] * 5), [7])
        self.assertEqual(why_with([1000] * 5, back(0)), [0])

    def test_only_the_area_asked(self):
        calls = [begin(), area()] + read_all(0, (21,) * 5) + [rainfall(26), area()] + read_all(1, (11,) * 5)
        self.answers_end(calls + [why(0), why(1)], [[13], [1]])

    def test_a_product_that_is_just_a_fifth_power(self):
        self.assertEqual(why_with((1, 2, 4, 8, 16), good=4, fair=4), [0])
        self.assertEqual(why_with((1, 2, 4, 8, 16), good=3, fair=4), [1])
        self.assertEqual(why_with((1, 2, 4, 8, 16), good=3, fair=3), [5])

    def test_as_its_class_says(self):
        for readings in itertools.product((1, 10, 11, 51, 400), repeat=5):
            calls = ONE + read_all(0, readings)
            told = ask(calls + [class_(0), why(0), shut()])[-3:]
            expected = (None, (0,), (1, 2, 3), (5, 7))[told[0][0]]
            self.assertIn(told[1][0], expected)

    def test_no_such_area(self):
        for i in (1, 6, TOP):
            self.answers_last(ONE + [why(i)], [-2])
        self.answers_last([begin(), why(0)], [-2])

    def test_changes_nothing(self):
        calls = ONE + [area()] + read_all(0, (60,) * 5) + [rainfall(30), days(1)]
        self.changes_nothing(calls, [why(0), why(1), why(2)], [[15], [8], [-2]])
