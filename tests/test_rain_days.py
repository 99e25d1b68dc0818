from tests.helper import TOP, Case, area, back, begin, class_, days, open_, opens, rainfall, read_all, shut

FIVE = (1, 1, 1, 1, 1)
OPEN = [begin(), area()] + read_all(0, FIVE)


class Rainfall(Case):
    def test_as_much_as_is_let_does_nothing(self):
        calls = OPEN + [area(), days(2)]
        self.changes_nothing(calls, [rainfall(0), rainfall(24), rainfall(25)], [[0], [0], [0]])

    def test_more_shuts_all(self):
        calls = OPEN + [area(), area(), rainfall(26)]
        self.answers_last(calls, [5])
        self.answers_end(calls + [open_(), shut(), class_(0)], [[0], [3, 0, 1, 2], [1, 0]])

    def test_out_of_range(self):
        for mm, expected in ((1000, [5]), (1001, [-22]), (TOP, [-22])):
            with self.subTest(mm=mm):
                self.answers_last(OPEN + [rainfall(mm)], expected)

    def test_out_of_range_changes_nothing(self):
        self.changes_nothing(OPEN + [area()], [rainfall(1001), rainfall(TOP)], [[-22], [-22]])

    def test_out_of_range_though_all_is_let(self):
        calls = [begin(rain=1000), area()] + read_all(0, FIVE)
        self.answers_end(calls + [rainfall(1000), shut(), rainfall(1001)], [[0], [0], [-22]])

    def test_none_is_let(self):
        calls = [begin(rain=0), area()]
        self.answers_end(calls + [rainfall(0), shut(), rainfall(1), shut()], [[0], [0], [5], [1, 0]])

    def test_the_day_on_which_it_opens(self):
        calls = OPEN + [days(3), rainfall(26)]
        self.answers_end(calls + [days(4), open_(), shut(), opens(0)], [[7, 0], [0], [1, 0], [1]])
        self.answers_end(calls + [days(5), open_(), shut(), opens(0)], [[8, 1], [1, 0], [0], [0]])
        self.answers_end(calls + [days(6), open_(), shut(), opens(0)], [[9, 1], [1, 0], [0], [0]])

    def test_on_a_day_that_is_shut_already(self):
        calls = OPEN + [rainfall(26), days(2), rainfall(27)]
        self.answers_end(calls + [opens(0), days(4), class_(0), days(1), class_(0)],
                         [[5], [5], [6, 0], [1, 0], [7, 1], [1, 1]])

    def test_twice_on_one_day(self):
        calls = OPEN + [rainfall(26), rainfall(1000)]
        self.answers_end(calls + [opens(0)], [[5], [5], [5]])

    def test_little_rain_never_opens(self):
        calls = OPEN + [rainfall(26), days(1), rainfall(25), rainfall(0)]
        self.answers_end(calls + [opens(0), shut()], [[0], [0], [4], [1, 0]])

    def test_on_the_day_on_which_it_opens(self):
        calls = OPEN + [rainfall(26), days(5), rainfall(26), opens(0), shut()]
        self.answers_end(calls, [[5, 1], [5], [5], [1, 0]])

    def test_for_no_days(self):
        calls = [begin(days=0), area()] + read_all(0, FIVE) + [rainfall(26)]
        self.answers_end(calls + [shut(), open_(), opens(0)], [[0], [0], [1, 0], [0]])

    def test_for_sixty_days(self):
        calls = [begin(days=60), area()] + read_all(0, FIVE) + [rainfall(26)]
        self.answers_end(calls + [opens(0), days(59), shut(), days(1), shut()],
                         [[60], [60], [59, 0], [1, 0], [60, 1], [0]])

    def test_no_areas(self):
        self.answers_end([begin(), rainfall(26), area(), shut()], [[5], [0], [0]])

    def test_only_areas_that_are_there(self):
        calls = [begin(), area(), rainfall(26), area(), days(1), shut(), rainfall(26), shut()]
        self.answers_end(calls, [[5], [1], [1, 0], [1, 0], [5], [2, 0, 1]])

    def test_beyond_the_last_day(self):
        calls = [begin(days=60), area()] + read_all(0, FIVE) + [days(100)] * 100 + [rainfall(26), opens(0), days(1)]
        self.answers_end(calls, [[10000, 1], [60], [60], [-75]])


class Days(Case):
    def test_which_day_and_how_many_are_open(self):
        calls = OPEN + [area(), area()] + read_all(2, FIVE)
        self.answers_end(calls + [days(1), days(2), days(100)], [[1, 2], [3, 2], [103, 2]])

    def test_edges(self):
        for n, expected in ((0, [-22]), (1, [1, 1]), (100, [100, 1]), (101, [-22]), (TOP, [-22])):
            with self.subTest(n=n):
                self.answers_last(OPEN + [days(n)], expected)

    def test_out_of_range_changes_nothing(self):
        self.changes_nothing(OPEN + [rainfall(30), days(2)], [days(0), days(101), days(TOP)], [[-22]] * 3)

    def test_up_to_the_last_day(self):
        calls = OPEN + [days(100)] * 99
        self.answers_end(calls + [days(100), days(1)], [[9900, 1], [10000, 1], [-75]])
        self.answers_end(calls + [days(50), days(51), days(50)], [[9950, 1], [-75], [10000, 1]])

    def test_too_late_changes_nothing(self):
        calls = OPEN + [days(100)] * 99 + [days(97), rainfall(30)]
        self.changes_nothing(calls, [days(4), days(100)], [[-75], [-75]])

    def test_which_refusal_first(self):
        calls = OPEN + [days(100)] * 100
        self.answers_end(calls + [days(0), days(101), days(TOP), days(1), days(100)],
                         [[-22], [-22], [-22], [-75], [-75]])

    def test_not_open_for_its_class(self):
        calls = OPEN + [area(), area()] + read_all(1, (1, 1, 1, 1)) + read_all(2, (21, 21, 21, 21, 21))
        self.answers_last(calls + [days(1)], [1, 1])

    def test_begins_again_at_day_0(self):
        self.answers_last(OPEN + [days(100)] * 100 + [begin(), days(100)], [100, 0])

    def test_opens_one_behind_another(self):
        calls = OPEN + [rainfall(26), area()] + read_all(1, FIVE) + [days(4), back(1), days(1)]
        self.answers_end(calls, [[4, 1], [1, 0], [5, 1]])
