"""The list that is handed in and the list that is given back."""

import unittest

from shorewaters.waters import answers
from tests.helper import (
    ARGUMENTS, TOP, above, area, ask, back, begin, best, class_, days, evenly, greatest, lasts, mean, needs, open_,
    opens, order, rainfall, read, reads, shut, state, why, worse, would,
)


def refuse(*told):
    raise AssertionError("what is handed in was changed")


class Guarded(list):
    """A list that lets nobody change it, not for a while either."""
    append = extend = insert = pop = remove = clear = sort = reverse = refuse
    __setitem__ = __delitem__ = __iadd__ = __imul__ = refuse


def flat(calls):
    return [number for call in calls for number in call]


EACH_CALL = (
    (begin(), [1, 0]), (area(), [1, 0]), (area(), [1, 1]), (read(0, 1), [2, 0, 0]), (read(0, 2), [2, 0, 0]),
    (read(0, 3), [2, 0, 0]), (read(0, 4), [2, 0, 0]), (read(0, 5), [2, 1, 0]), (read(0, 6), [2, 1, 1]),
    (back(0), [2, 6, 1]), (days(3), [2, 3, 1]), (class_(0), [2, 1, 1]), (open_(), [2, 1, 0]), (rainfall(26), [1, 5]),
    (shut(), [3, 2, 0, 1]), (days(1), [2, 4, 0]), (opens(0), [1, 4]), (mean(0), [2, 2, 120]), (evenly(0), [2, 3, 15]),
    (mean(1), [1, -6]), (read(7, 7), [1, -2]), (greatest(0, 1), [1, 833]), (greatest(1, 1), [1, -33]),
    (would(0, 834), [1, 2]), (would(0, 1001), [1, -22]), (needs(1, 3, 1), [1, 5]), (needs(1, 21, 2), [1, -33]),
    (lasts(0, 50, 1), [1, 2]), (lasts(0, 1, 3), [1, -22]), (above(0, 3), [2, 2, 5]), (above(1, 3), [2, 0, 0]),
    (worse(0, 0), [1, 0]), (worse(0, 1), [1, -6]), (best(), [2, 0, 2]), (order(), [3, 2, 0, 1]), (why(0), [1, 8]),
    (reads(0), [6, 5, 5, 4, 3, 2, 1]), (reads(1), [1, 0]), (reads(2), [1, -2]),
    (state(), [8, 0, 4, 10, 20, 50, 25, 5, 2]),
)
ALL_CALLS = flat([call for call, told in EACH_CALL])
THEIR_ANSWERS = flat([told for call, told in EACH_CALL])


class TheList(unittest.TestCase):
    def test_all_23_are_among_them(self):
        self.assertEqual(sorted({call[0] for call, told in EACH_CALL}), list(range(23)))

    def test_counts_stand_ahead(self):
        self.assertEqual(answers(ALL_CALLS), THEIR_ANSWERS)

    def test_one_call(self):
        self.assertEqual(answers([0, 1, 1, 1, 0, 0]), [1, 0])
        self.assertEqual(answers([0, 0, 1, 1, 0, 0]), [1, -22])
        self.assertEqual(answers([7]), [1, -11])
        self.assertEqual(answers([22]), [1, -11])

    def test_only_the_answers_told_have_more_than_one_number(self):
        calls = [begin(), area()] + [read(0, 3)] * 5
        for call, count in ((greatest(0, 1), 1), (would(0, 1), 1), (needs(0, 1, 1), 1), (lasts(0, 1000, 1), 1),
                            (above(0, 1), 2), (worse(0, 0), 1), (best(), 2), (order(), 2), (why(0), 1), (reads(0), 6),
                            (state(), 8)):
            with self.subTest(call=call):
                told = answers(flat(calls + [call]))
                self.assertEqual(told[-count - 1], count)
                self.assertEqual(len(told), 2 + 2 + 15 + 1 + count)

    def test_handed_in_is_not_changed(self):
        handed = Guarded(ALL_CALLS)
        answers(handed)
        self.assertEqual(list(handed), ALL_CALLS)

    def test_a_second_time_gives_the_same(self):
        handed = list(ALL_CALLS)
        first = answers(handed)
        answers(flat([begin(1, 1, 1, 0, 60), area(), rainfall(1), days(100), read(0, 9), state()]))
        self.assertEqual(answers(handed), first)
        self.assertEqual(answers(flat([area(), days(1), state()])), [1, -11, 1, -11, 1, -11])

    def test_given_back_is_another_list_each_time(self):
        first = answers(ALL_CALLS)
        first.append(5)
        self.assertEqual(answers(ALL_CALLS), THEIR_ANSWERS)

    def test_256_calls_and_1536_numbers(self):
        handed = flat([begin()] * 256)
        self.assertEqual(len(handed), 1536)
        self.assertEqual(answers(handed), [1, 0] * 256)

    def test_256_calls_with_all_23_again_and_again(self):
        calls = (EACH_CALL * 7)[:256]
        self.assertEqual(answers(flat([call for call, told in calls])), flat([told for call, told in calls]))

    def test_256_of_each_call(self):
        for number in range(1, 23):
            calls = [begin()] + [[number] + [0] * ARGUMENTS[number]] * 255
            with self.subTest(number=number):
                self.assertEqual(len(ask(calls)), 256)

    def test_greatest_numbers_in_every_place(self):
        told = ask([
            begin(), area(), read(TOP, 1), read(0, TOP), read(TOP, TOP), back(TOP), rainfall(TOP), days(TOP),
            class_(TOP), opens(TOP), mean(TOP), evenly(TOP), begin(good=TOP), begin(fair=TOP), begin(peak=TOP),
            begin(rain=TOP), begin(days=TOP), area(),
        ])
        self.assertEqual(told, [[0], [0], [-2], [-22], [-2], [-2], [-22], [-22]] + [[-2]] * 4 + [[-22]] * 5 + [[1]])

    def test_greatest_numbers_in_every_place_of_the_others(self):
        told = ask([
            begin(), area(), greatest(TOP, TOP), greatest(0, TOP), would(TOP, TOP), would(0, TOP), needs(TOP, TOP, TOP),
            needs(0, TOP, 1), needs(0, 1, TOP), lasts(TOP, TOP, TOP), lasts(0, TOP, 1), lasts(0, 1, TOP),
            above(TOP, TOP), above(0, TOP), worse(TOP, 0), worse(0, TOP), why(TOP), reads(TOP),
        ])
        wrong = [-2, -22, -2, -22, -2, -22, -22, -2, -22, -22, -2, -22, -2, -2, -2, -2]
        self.assertEqual(told, [[0], [0]] + [[x] for x in wrong])


if __name__ == "__main__":
    unittest.main()
