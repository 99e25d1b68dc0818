from tests.helper import TOP, Case, area, ask, back, begin, class_, evenly, mean, rainfall, read, read_all

ONE = [begin(), area()]


class Read(Case):
    def test_class_then_and_class_before(self):
        told = ask(ONE + read_all(0, (10, 10, 10, 10, 10, 11, 1, 1000, 1000, 1)))
        self.assertEqual(told[2:], [
            [0, 0], [0, 0], [0, 0], [0, 0], [1, 0], [2, 1], [1, 2], [2, 1], [3, 2], [3, 3],
        ])

    def test_edges_of_a_reading(self):
        for x, expected in ((0, [-22]), (1, [0, 0]), (1000, [0, 0]), (1001, [-22]), (TOP, [-22])):
            with self.subTest(x=x):
                self.answers_last(ONE + [read(0, x)], expected)

    def test_out_of_range_changes_nothing(self):
        calls = ONE + [area()] + read_all(0, (1, 2, 3, 4, 60)) + read_all(1, (1, 2, 3, 4))
        wrong = [read(0, 0), read(0, 1001), read(1, 0), read(1, TOP)]
        self.changes_nothing(calls, wrong, [[-22]] * 4)

    def test_sixty_and_no_more(self):
        calls = ONE + read_all(0, [1] * 59)
        self.answers_end(calls + [read(0, 2), read(0, 3), mean(0)], [[1, 1], [-28], [1, 2]])

    def test_too_many_changes_nothing(self):
        calls = ONE + [area()] + read_all(0, [3] * 50 + [1, 2, 3, 4, 5, 6, 7, 8, 9, 60])
        self.changes_nothing(calls, [read(0, 1), read(0, 1000)], [[-28], [-28]])

    def test_room_again_after_one_taken_back(self):
        calls = ONE + read_all(0, [1] * 60) + [read(0, 2), back(0), read(0, 2), read(0, 2)]
        self.answers_end(calls, [[-28], [1, 1], [1, 1], [-28]])

    def test_sixty_in_each_area(self):
        calls = ONE + [area()] + read_all(0, [1] * 60) + read_all(1, [1] * 60)
        self.answers_end(calls + [read(0, 1), read(1, 1)], [[1, 1], [-28], [-28]])

    def test_which_refusal_first(self):
        full = ONE + read_all(0, [1] * 60)
        self.answers_last(full + [read(0, 0)], [-22])
        self.answers_last(full + [read(0, 1001)], [-22])
        self.answers_last(full + [read(1, 0)], [-2])
        self.answers_last(full + [read(1, 5)], [-2])
        self.answers_last(full + [read(TOP, TOP)], [-2])

    def test_rain_is_no_matter(self):
        self.answers_last(ONE + [rainfall(1000)] + read_all(0, (10, 10, 10, 10, 10)), [1, 0])


class Back(Case):
    def test_which_it_was_and_the_class_then(self):
        calls = ONE + read_all(0, (10, 10, 10, 10, 10, 11)) + [back(0), back(0), back(0)]
        self.answers_end(calls, [[11, 1], [10, 0], [10, 0]])

    def test_none_left(self):
        self.answers_last(ONE + [back(0)], [-6])
        self.answers_end(ONE + [read(0, 7), back(0), back(0), back(0)], [[7, 0], [-6], [-6]])

    def test_none_left_changes_nothing(self):
        self.changes_nothing(ONE + [area()] + read_all(1, (1, 2, 3, 4, 5)), [back(0), back(0)], [[-6], [-6]])

    def test_all_sixty_the_last_first(self):
        calls = ONE + read_all(0, range(101, 161)) + [back(0)] * 61
        told = ask(calls)[-61:]
        self.assertEqual([reply[0] for reply in told], list(range(160, 100, -1)) + [-6])
        self.assertEqual([len(reply) for reply in told], [2] * 60 + [1])

    def test_the_one_before_the_last_five_counts_again(self):
        calls = ONE + read_all(0, (32, 1, 1, 1, 1, 5))
        self.answers_end(calls + [mean(0), back(0), mean(0), evenly(0)], [[1, 5], [5, 1], [2, 32], [7, 36]])

    def test_the_one_before_the_last_ten_counts_again(self):
        calls = ONE + read_all(0, (51, 51, 1, 1, 1, 1, 1, 1, 1, 1, 1))
        self.answers_end(calls + [class_(0), back(0), class_(0)], [[1, 1], [1, 2], [2, 1]])

    def test_one_behind_another_is_as_before(self):
        calls = ONE + [area()] + read_all(0, (1, 2, 3, 4, 5, 51, 6))
        self.changes_nothing(calls, [read(0, 1000), back(0)], [[3, 1], [1000, 1]])

    def test_only_of_its_own_area(self):
        calls = ONE + [area()] + read_all(0, (1, 2, 3, 4, 5)) + read_all(1, (6, 7, 8, 9, 10))
        self.answers_end(calls + [back(1), mean(0), mean(1)], [[10, 0], [2, 120], [-6]])

    def test_no_such_area(self):
        for i in (1, 6, TOP):
            self.answers_last(ONE + [back(i)], [-2])
