from tests.helper import (
    ARGUMENTS, TOP, Case, area, begin, class_, days, evenly, last, mean, open_, opens, rainfall, read, read_all, shut,
)


class Begin(Case):
    def test_answers_0(self):
        self.answers_last([begin()], [0])

    def test_edges_that_are_let(self):
        for told in ((1, 1, 1, 0, 0), (1000, 1000, 1000, 1000, 60), (1, 1000, 1, 0, 60), (7, 7, 1000, 1000, 0)):
            with self.subTest(told=told):
                self.answers_last([begin(*told)], [0])

    def test_out_of_range(self):
        wrong = (
            {"good": 0}, {"good": 1001, "fair": 1001}, {"good": 1001, "fair": 1000}, {"good": 21, "fair": 20},
            {"fair": 9}, {"fair": 0}, {"fair": 1001}, {"peak": 0}, {"peak": 1001}, {"rain": 1001}, {"days": 61},
            {"good": TOP}, {"good": TOP, "fair": TOP}, {"fair": TOP}, {"peak": TOP}, {"rain": TOP}, {"days": TOP},
        )
        for told in wrong:
            with self.subTest(told=told):
                self.answers_last([begin(**told)], [-22])

    def test_peak_may_be_below_good_or_above_fair(self):
        self.answers_last([begin(good=10, fair=20, peak=1)], [0])
        self.answers_last([begin(good=10, fair=20, peak=1000)], [0])

    def test_no_areas_at_first(self):
        self.answers_end([begin(), open_(), shut(), class_(0)], [[0], [0], [-2]])

    def test_each_bound_is_kept_in_its_place(self):
        told = begin(good=3, fair=5, peak=7, rain=11, days=13)
        calls = [told, area()]
        self.answers_last(calls + read_all(0, (3, 3, 3, 3, 3)), [1, 0])
        self.answers_last(calls + read_all(0, (3, 3, 3, 3, 4)), [2, 0])
        self.answers_last(calls + read_all(0, (5, 5, 5, 5, 5)), [2, 0])
        self.answers_last(calls + read_all(0, (5, 5, 5, 5, 6)), [3, 0])
        self.answers_last(calls + read_all(0, (7, 7, 1, 1, 1)), [1, 0])
        self.answers_last(calls + read_all(0, (8, 8, 1, 1, 1)), [2, 0])
        self.answers_last(calls + [rainfall(11)], [0])
        self.answers_last(calls + [rainfall(12)], [13])

    def test_once_more_in_the_middle(self):
        calls = [begin(), area(), area()] + read_all(0, (1, 1, 1, 1, 1)) + [days(7), rainfall(30)]
        calls += [begin(good=2, fair=2, peak=50, rain=0, days=9)]
        self.answers_last(calls, [0])
        self.answers_end(calls + [class_(0), open_(), shut(), area()], [[-2], [0], [0], [0]])
        self.answers_last(calls + [days(1)], [1, 0])
        self.answers_end(calls + [area(), class_(0), mean(0), shut()], [[0], [0, 0], [-6], [0]])
        self.answers_end(calls + [area(), rainfall(1), shut(), days(8), shut(), days(1), shut()],
                         [[9], [1, 0], [8, 0], [1, 0], [9, 0], [0]])
        self.answers_last(calls + [area()] + read_all(0, (2, 2, 2, 2, 3)), [3, 0])

    def test_refused_behind_one_that_answered_0(self):
        calls = [begin(), area(), area()] + read_all(0, (1, 2, 3, 4, 5)) + [days(7), rainfall(30), days(1)]
        for wrong in (begin(good=0), begin(fair=9), begin(fair=1001), begin(peak=0), begin(rain=1001), begin(days=61),
                      begin(good=900, fair=950, peak=1, rain=0, days=TOP), begin(TOP, TOP, TOP, TOP, TOP)):
            with self.subTest(wrong=wrong):
                self.changes_nothing(calls, [wrong], [[-22]])


class NotBegun(Case):
    def test_every_other_call(self):
        for number in range(1, 23):
            for x in (0, 1, TOP):
                with self.subTest(number=number, x=x):
                    self.answers_last([[number] + [x] * ARGUMENTS[number]], [-11])

    def test_each_takes_as_many_numbers_as_told(self):
        calls = [[number] + [x] * ARGUMENTS[number] for x in (0, 22, TOP) for number in range(1, 23)]
        self.answers_end(calls, [[-11]] * len(calls))

    def test_after_a_refused_begin(self):
        for wrong in (begin(good=0), begin(rain=1001), begin(days=61)):
            for number in range(1, 23):
                with self.subTest(wrong=wrong, number=number):
                    self.answers_end([wrong, [number] + [0] * ARGUMENTS[number]], [[-22], [-11]])

    def test_begun_after_a_refused_one(self):
        self.answers_end([area(), begin(days=61), area(), begin(), area()], [[-11], [-22], [-11], [0], [0]])

    def test_nothing_is_done_before_a_begin(self):
        calls = [area(), days(3), rainfall(1000), begin(), days(1), open_(), area()]
        self.answers_end(calls, [[0], [1, 0], [0], [0]])


class NoSuchArea(Case):
    def test_every_call_that_names_an_area(self):
        for number in (2, 3, 6, 9, 10, 11, 12, 13, 14, 15, 16, 17, 20, 21):
            for count in (0, 1, 6):
                for i in (count, count + 1, TOP):
                    call = [number, i] + [0] * (ARGUMENTS[number] - 1)
                    with self.subTest(count=count, call=call):
                        self.answers_last([begin()] + [area()] * count + [call], [-2])

    def test_the_second_of_two_areas(self):
        for j in (2, TOP):
            self.answers_last([begin(), area(), area(), [17, 1, j]], [-2])

    def test_changes_nothing(self):
        calls = [begin(), area(), area()] + read_all(1, (1, 2, 3, 4, 5))
        wrong = [read(2, 5), [3, 2], class_(2), opens(TOP), mean(2), evenly(6)]
        self.changes_nothing(calls, wrong, [[-2]] * 6)


class AreaCall(Case):
    def test_numbers_from_0(self):
        self.answers_end([begin()] + [area()] * 6, [[0], [1], [2], [3], [4], [5]])

    def test_no_seventh(self):
        calls = [begin()] + [area()] * 6
        self.answers_last(calls + [area()], [-28])
        self.changes_nothing(calls, [area(), area()], [[-28], [-28]])

    def test_has_no_readings_and_is_not_shut(self):
        calls = [begin(), area(), rainfall(30), area()]
        self.answers_end(calls + [shut(), class_(1), [3, 1]], [[1, 0], [0, 0], [-6]])

    def test_areas_keep_readings_of_their_own(self):
        calls = [begin(), area(), area()] + read_all(0, (1, 1, 1, 1, 1)) + read_all(1, (2, 2, 2, 2))
        self.assertEqual(last(calls + [mean(0)]), [1, 1])
        self.assertEqual(last(calls + [mean(1)]), [-6])
        self.assertEqual(last(calls + [read(1, 2), mean(1)]), [2, 32])
