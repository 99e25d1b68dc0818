import itertools

from tests.helper import TOP, Case, area, ask, back, begin, class_, evenly, last, mean, read, read_all

ONE = [begin(), area()]


def both(readings):
    return ask(ONE + read_all(0, readings) + [mean(0), evenly(0)])[-2:]


class Mean(Case):
    def test_mean_and_product(self):
        self.assertEqual(both((1, 2, 3, 4, 5))[0], [2, 120])
        self.assertEqual(both((10, 20, 30, 40, 50))[0], [26, 12000000])

    def test_a_mean_of_1(self):
        self.assertEqual(both((1, 1, 1, 1, 1))[0], [1, 1])
        self.assertEqual(both((31, 1, 1, 1, 1))[0], [1, 31])

    def test_at_a_fifth_power_and_beside_it(self):
        self.assertEqual(both((32, 1, 1, 1, 1))[0], [2, 32])
        self.assertEqual(both((33, 1, 1, 1, 1))[0], [2, 33])
        self.assertEqual(both((242, 1, 1, 1, 1))[0], [2, 242])
        self.assertEqual(both((243, 1, 1, 1, 1))[0], [3, 243])
        self.assertEqual(both((11, 93, 1, 1, 1))[0], [3, 1023])
        self.assertEqual(both((1, 2, 4, 8, 16))[0], [4, 1024])

    def test_all_alike(self):
        for m in range(1, 1001):
            self.assertEqual(both((m,) * 5)[0], [m, m ** 5])

    def test_just_below_all_alike(self):
        for m in range(2, 1001):
            self.assertEqual(both((m, m, m - 1, m, m))[0], [m - 1, m ** 4 * (m - 1)])

    def test_the_greatest(self):
        self.assertEqual(both((1000,) * 5)[0], [1000, 10 ** 15])
        self.assertEqual(both((1000, 1000, 1000, 1000, 999))[0], [999, 999 * 10 ** 12])

    def test_the_last_five_alone(self):
        self.assertEqual(both((1000, 1, 2, 3, 4, 5))[0], [2, 120])
        self.assertEqual(both([1000] * 55 + [1, 2, 3, 4, 5])[0], [2, 120])

    def test_the_same_in_whatever_order(self):
        for order in itertools.permutations((1, 7, 32, 500, 1000)):
            self.assertEqual(both(order)[0], [40, 112000000])

    def test_is_the_greatest_whose_fifth_power_is_no_more(self):
        for step in range(1, 300):
            readings = [step * k * k % 1000 + 1 for k in (1, 3, 7, 11, 13)]
            told = both(readings)
            product = 1
            for x in readings:
                product *= x
            self.assertEqual(told[0][1], product)
            self.assertLessEqual(told[0][0] ** 5, product)
            self.assertGreater((told[0][0] + 1) ** 5, product)

    def test_what_it_is_within_it_is_told_to_be_within(self):
        for step in range(1, 300):
            readings = [step * k * k % 1000 + 1 for k in (1, 3, 7, 11, 13)]
            found, product = both(readings)[0]
            least = found if found ** 5 == product else found + 1
            within = [begin(good=least, fair=least, peak=1000), area()] + read_all(0, readings) + [class_(0)]
            self.assertEqual(last(within), [1, 1])
            if least > 1:
                beyond = [begin(good=least - 1, fair=least, peak=1000), area()] + read_all(0, readings) + [class_(0)]
                self.assertEqual(last(beyond), [2, 1])


class Evenly(Case):
    def test_sum_divided_and_sum(self):
        self.assertEqual(both((1, 2, 3, 4, 5))[1], [3, 15])
        self.assertEqual(both((1, 1, 1, 1, 1))[1], [1, 5])
        self.assertEqual(both((1000, 1000, 1000, 1000, 1000))[1], [1000, 5000])

    def test_rounded_down(self):
        self.assertEqual(both((1, 1, 1, 1, 5))[1], [1, 9])
        self.assertEqual(both((1, 1, 1, 1, 6))[1], [2, 10])
        self.assertEqual(both((1, 1, 1, 1, 7))[1], [2, 11])

    def test_the_last_five_alone(self):
        self.assertEqual(both((1000, 1, 2, 3, 4, 5))[1], [3, 15])
        self.assertEqual(both([1000] * 55 + [1, 2, 3, 4, 5])[1], [3, 15])

    def test_the_mean_is_no_more(self):
        for step in range(1, 300):
            told = both([step * k * k % 1000 + 1 for k in (1, 3, 7, 11, 13)])
            self.assertLessEqual(told[0][0], told[1][0])
            self.assertLessEqual(3125 * told[0][1], told[1][1] ** 5)


class TooFew(Case):
    def test_fewer_than_five(self):
        for count in range(5):
            self.assertEqual(both([3] * count), [[-6], [-6]])

    def test_the_fifth_reading_and_taken_back(self):
        calls = ONE + read_all(0, (2, 2, 2, 2)) + [read(0, 2), mean(0), evenly(0), back(0), mean(0), evenly(0)]
        self.answers_end(calls, [[1, 0], [2, 32], [2, 10], [2, 0], [-6], [-6]])

    def test_no_such_area_first(self):
        for i in (1, 6, TOP):
            self.answers_end(ONE + [mean(i), evenly(i)], [[-2], [-2]])

    def test_changes_nothing(self):
        calls = ONE + [area()] + read_all(0, (1, 2, 3, 4))
        self.changes_nothing(calls, [mean(0), evenly(0), mean(1)], [[-6]] * 3)
