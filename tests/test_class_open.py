from tests.helper import (
    TOP, Case, area, ask, back, begin, class_, days, last, looks, open_, opens, rainfall, read_all, shut,
)

ONE = [begin(), area()]
OF_CLASS = ((), (10, 10, 10, 10, 10), (20, 20, 20, 20, 20), (21, 20, 20, 20, 20))


def class_with(readings, **told):
    return last([begin(**told), area()] + read_all(0, readings) + [class_(0)])


class Class(Case):
    def test_each_class_and_whether_open(self):
        for c, expected in enumerate(([0, 0], [1, 1], [2, 1], [3, 0])):
            with self.subTest(c=c):
                self.answers_last(ONE + read_all(0, OF_CLASS[c]) + [class_(0)], expected)

    def test_each_class_while_shut(self):
        for c in range(4):
            with self.subTest(c=c):
                self.answers_last(ONE + read_all(0, OF_CLASS[c]) + [rainfall(26), class_(0)], [c, 0])

    def test_fewer_than_five(self):
        for count in range(5):
            with self.subTest(count=count):
                self.assertEqual(class_with([1] * count), [0, 0])
                self.assertEqual(class_with([1000] * count), [0, 0])
        self.assertEqual(class_with([1] * 5), [1, 1])
        self.assertEqual(class_with([1000] * 5), [3, 0])

    def test_only_the_last_five_count_for_the_mean(self):
        self.assertEqual(class_with([40] * 20 + [10] * 4), [2, 1])
        self.assertEqual(class_with([40] * 20 + [10] * 5), [1, 1])
        self.assertEqual(class_with([1] * 20 + [40] * 5), [3, 0])

    def test_a_product_that_is_just_a_fifth_power(self):
        for readings, m in (((32, 1, 1, 1, 1), 2), ((1, 2, 4, 8, 16), 4), ((9, 27, 1, 27, 9), 9),
                            ((1000, 1000, 1000, 1000, 1000), 1000), ((1000, 10, 1000, 1, 1000), 100)):
            with self.subTest(readings=readings):
                self.assertEqual(class_with(readings, good=m, fair=m, peak=1000), [1, 1])
                self.assertEqual(class_with(readings, good=m - 1, fair=m, peak=1000), [2, 1])
                self.assertEqual(class_with(readings, good=m - 1, fair=m - 1, peak=1000), [3, 0])

    def test_one_more_than_a_fifth_power(self):
        self.assertEqual(class_with((33, 1, 1, 1, 1), good=2, fair=2), [3, 0])
        self.assertEqual(class_with((33, 1, 1, 1, 1), good=2, fair=3), [2, 1])
        self.assertEqual(class_with((1, 1, 1, 1, 2), good=1, fair=1), [3, 0])
        self.assertEqual(class_with((1, 1, 1, 1, 1), good=1, fair=1), [1, 1])

    def test_every_bound_at_both_sides(self):
        for m in range(1, 1000):
            told = {"good": m, "fair": m, "peak": 1000}
            self.assertEqual(class_with([m] * 5, **told), [1, 1])
            self.assertEqual(class_with([m] * 4 + [m + 1], **told), [3, 0])

    def test_one_and_two_of_ten_above_the_peak(self):
        one = [51] + [1] * 9
        two = [51, 51] + [1] * 8
        self.assertEqual(class_with(one), [1, 1])
        self.assertEqual(class_with(two), [2, 1])
        self.assertEqual(class_with(two + [1]), [1, 1])
        self.assertEqual(class_with([51] + two), [2, 1])
        self.assertEqual(class_with([1] * 8 + [51, 51]), [2, 1])
        self.assertEqual(class_with([51] + [1] * 8 + [51]), [2, 1])
        self.assertEqual(class_with([51] + [1] * 9 + [51]), [1, 1])

    def test_as_much_as_the_peak_is_not_above(self):
        self.assertEqual(class_with([50, 50] + [1] * 8), [1, 1])
        self.assertEqual(class_with([50, 51] + [1] * 8), [1, 1])

    def test_the_peak_with_fewer_than_ten(self):
        for count in range(3, 9):
            with self.subTest(count=count):
                self.assertEqual(class_with([51, 51] + [1] * count), [2, 1])
                self.assertEqual(class_with([51] + [1] * (count + 1)), [1, 1])

    def test_the_peak_makes_no_class_3(self):
        self.assertEqual(class_with([20] * 10, peak=1), [2, 1])
        self.assertEqual(class_with([10] * 10, peak=1), [2, 1])
        self.assertEqual(class_with([10] * 10, peak=9), [2, 1])
        self.assertEqual(class_with([10] * 10, peak=10), [1, 1])

    def test_good_and_fair_the_same(self):
        told = {"good": 10, "fair": 10, "peak": 50}
        self.assertEqual(class_with([10] * 5, **told), [1, 1])
        self.assertEqual(class_with([10] * 4 + [11], **told), [3, 0])
        self.assertEqual(class_with([51, 51, 1, 1, 1], **told), [2, 1])

    def test_no_such_area(self):
        for i in (1, 6, TOP):
            self.answers_last(ONE + [class_(i)], [-2])


class OpenAndShut(Case):
    def all_classes(self):
        calls = [begin()] + [area()] * 6
        for i, c in enumerate((2, 0, 1, 3, 1)):
            calls += read_all(i, OF_CLASS[c])
        return calls + read_all(5, (1, 1, 1, 1))

    def test_no_areas(self):
        self.answers_end([begin(), open_(), shut()], [[0], [0]])

    def test_which_are_open(self):
        self.answers_end(self.all_classes() + [open_(), shut()], [[3, 0, 2, 4], [0]])

    def test_which_are_shut_whatever_their_class(self):
        self.answers_end(self.all_classes() + [rainfall(26), open_(), shut()], [[0], [6, 0, 1, 2, 3, 4, 5]])

    def test_all_six_open(self):
        calls = [begin()] + [area()] * 6
        for i in range(6):
            calls += read_all(i, (1, 1, 1, 1, 1))
        self.answers_end(calls + [open_(), days(1)], [[6, 0, 1, 2, 3, 4, 5], [1, 6]])

    def test_some_shut_some_open(self):
        calls = ONE + [area()] + read_all(0, (1,) * 5) + read_all(1, (1,) * 5) + [rainfall(26), area(), area()]
        calls += read_all(3, (1,) * 5)
        self.answers_end(calls + [open_(), shut()], [[1, 3], [2, 0, 1]])
        self.answers_end(calls + [days(4), open_(), shut()], [[4, 1], [1, 3], [2, 0, 1]])
        self.answers_end(calls + [days(5), open_(), shut()], [[5, 3], [3, 0, 1, 3], [0]])

    def test_the_fifth_reading_opens_and_taken_back_it_does_not(self):
        calls = ONE + read_all(0, (1, 1, 1, 1))
        self.answers_last(calls + [open_()], [0])
        self.answers_last(calls + read_all(0, (1,)) + [open_()], [1, 0])
        self.answers_last(calls + read_all(0, (1,)) + [back(0), open_()], [0])


class Opens(Case):
    def test_in_how_many_days(self):
        for c in (1, 2):
            calls = ONE + read_all(0, OF_CLASS[c])
            self.answers_last(calls + [opens(0)], [0])
            told = ask(calls + [rainfall(26)] + [opens(0), days(1)] * 7)[-14::2]
            self.assertEqual(told, [[5], [4], [3], [2], [1], [0], [0]])

    def test_never_for_its_class(self):
        for readings in (OF_CLASS[0], (1, 1, 1, 1), OF_CLASS[3]):
            calls = ONE + read_all(0, readings)
            self.answers_last(calls + [opens(0)], [-33])
            self.answers_last(calls + [rainfall(26), opens(0)], [-33])

    def test_it_is_open_then_and_not_before(self):
        for rained in range(4):
            calls = ONE + read_all(0, OF_CLASS[2]) + [rainfall(26)] + [days(1), rainfall(30)] * rained + [days(2)]
            wait = last(calls + [opens(0)])[0]
            self.assertEqual(wait, 3)
            self.answers_last(calls + [days(wait - 1), class_(0)], [2, 0])
            self.answers_last(calls + [days(wait), class_(0)], [2, 1])

    def test_no_such_area(self):
        for i in (1, TOP):
            self.answers_last(ONE + [opens(i)], [-2])


class Looking(Case):
    def test_changes_nothing(self):
        calls = ONE + [area()] + read_all(0, (1, 2, 3, 4, 51, 60)) + read_all(1, (1, 2, 3, 4)) + [days(2), rainfall(30)]
        self.changes_nothing(calls, looks(), ask(calls + looks())[len(calls):])
