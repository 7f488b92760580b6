import unittest

from tests.asking import GREATEST, ask, begins, best, follow, last, lift, more, years

NONE_LOST = [0, 0, 0]
# Year 2 asks for one bag in year 0, year 3 for another one in year 0 or 1.
TOLD = (begins(2, NONE_LOST, [10]), years((2, 0), (2, 0), (0, 10), (0, 10)))
BEST = [2, 2, 1, 1, 0, 0]
# A nursery in which no row does: one plant is wanted in year 0.
NO_ROW = (begins(2, NONE_LOST, [10]), years((2, 1), (2, 0)))


class MoreRefused(unittest.TestCase):
    def test_no_such_year(self):
        for count in range(7):
            told = years(*[(1, 0)] * count)
            for year in range(9):
                with self.subTest(count=count, year=year):
                    self.assertEqual(last(told, more(year, 0)) == [-2], year >= count)
            self.assertEqual(last(told, more(GREATEST, 0)), [-2])

    def test_no_such_year_goes_ahead_of_all_else(self):
        for wanted in (0, 1, 100000, 100001, GREATEST):
            self.assertEqual(last(more(0, wanted)), [-2])
            self.assertEqual(last(*TOLD, more(4, wanted)), [-2])
            self.assertEqual(last(*NO_ROW, more(2, wanted)), [-2])

    def test_too_many_more(self):
        for year in range(4):
            self.assertEqual(last(*TOLD, more(year, 100000)), [-3])
            self.assertEqual(last(*TOLD, more(year, 100001)), [-1])
            self.assertEqual(last(*TOLD, more(year, GREATEST)), [-1])

    def test_too_many_more_goes_ahead_of_no_row(self):
        self.assertEqual(last(*NO_ROW, more(0, 100001)), [-1])
        self.assertEqual(last(*NO_ROW, more(1, GREATEST)), [-1])

    def test_no_row_does_now(self):
        for year in range(2):
            for wanted in (0, 1, 100000):
                self.assertEqual(last(*NO_ROW, more(year, wanted)), [-6])
        greatest = years((8, 0), (8, 0), (8, 100000))
        self.assertEqual(last(begins(4, NONE_LOST, [1000]), greatest, more(2, 0)), [-6])

    def test_some_row_does_now_but_none_would(self):
        self.assertEqual(last(*TOLD, more(0, 1)), [-3])
        self.assertEqual(last(*TOLD, more(1, 1)), [-3])
        self.assertEqual(last(*TOLD, more(2, 11)), [-3])
        self.assertEqual(last(*TOLD, more(3, 21)), [-3])

    def test_they_change_nothing(self):
        for told in (TOLD, NO_ROW):
            row = [0] * (4 if told == TOLD else 2)
            asked = ask(*told, best(), follow(*row), more(9, 0), more(0, 100001), more(0, 1), best(), follow(*row))
            self.assertEqual(asked[2:4], asked[7:9])


class MoreAnswers(unittest.TestCase):
    def test_none_more(self):
        for year in range(4):
            self.assertEqual(last(*TOLD, more(year, 0)), [0] + BEST[1:])

    def test_some_bags_more(self):
        self.assertEqual(last(*TOLD, best()), BEST)
        self.assertEqual(last(*TOLD, more(2, 1)), [1, 1, 2, 1, 0, 0])
        self.assertEqual(last(*TOLD, more(2, 10)), [1, 1, 2, 1, 0, 0])
        self.assertEqual(last(*TOLD, more(3, 1)), [1, 2, 1, 2, 0, 0])
        self.assertEqual(last(*TOLD, more(3, 10)), [1, 2, 1, 2, 0, 0])
        self.assertEqual(last(*TOLD, more(3, 11)), [2, 1, 2, 2, 0, 0])
        self.assertEqual(last(*TOLD, more(3, 20)), [2, 1, 2, 2, 0, 0])

    def test_no_bag_more(self):
        told = (begins(2, NONE_LOST, [10]), years((2, 0), (2, 0), (0, 6), (0, 10)))
        self.assertEqual(last(*told, best()), [2, 2, 1, 1, 0, 0])
        self.assertEqual(last(*told, more(2, 4)), [0, 2, 1, 1, 0, 0])
        self.assertEqual(last(*told, more(2, 5)), [1, 1, 2, 1, 0, 0])
        self.assertEqual(last(*told, more(3, 4)), [0, 2, 1, 1, 0, 0])

    def test_no_bag_more_but_fewer_rows(self):
        # A bag gives 9 in year 1, which do now; for one plant more it has to be sown in year 0.
        told = (begins(1, NONE_LOST, [10, 9]), years((1, 0), (0, 0), (0, 0), (0, 9)))
        self.assertEqual(last(*told, best()), [1, 2, 0, 1, 0, 0])
        self.assertEqual(last(*told, more(3, 1)), [0, 1, 1, 0, 0, 0])

    def test_the_first_a_middle_and_the_last_year(self):
        told = (begins(4, NONE_LOST, [10]), years((8, 0), (8, 0), (8, 20), (8, 20), (8, 20), (8, 20)))
        self.assertEqual(last(*told, best()), [8, 27, 2, 2, 2, 2, 0, 0])
        self.assertEqual(last(*told, more(0, 1)), [-3])
        self.assertEqual(last(*told, more(0, 0)), [0, 27, 2, 2, 2, 2, 0, 0])
        # Let x, y, z bags of the years 0, 1, 2 stand for bags of the year behind them.
        # Sown are 3 + x, 2 - x + y, 2 - y + z, 2 - z: x to 1, y and z to 2, so 2 * 3 * 3 rows.
        self.assertEqual(last(*told, more(2, 10)), [1, 18, 3, 2, 2, 2, 0, 0])
        # 2 + x, 3 - x + y, 2 - y + z, 2 - z: y is at most 1 + x, so (2 + 3 + 3) * 3 rows.
        self.assertEqual(last(*told, more(3, 10)), [1, 24, 2, 3, 2, 2, 0, 0])
        # 2 + x, 2 - x + y, 2 - y + z, 4 - z: z is at most 2 + y, so 3 * (3 + 4 + 5) rows.
        self.assertEqual(last(*told, more(5, 20)), [2, 36, 2, 2, 2, 4, 0, 0])
        # 2 + x, 2 - x + y, 2 - y + z, 6 - z: z is also at least 2, so 3 * (1 + 2 + 3) rows.
        self.assertEqual(last(*told, more(5, 40)), [4, 18, 2, 2, 4, 4, 0, 0])
        # 2 + x, 2 - x + y, 2 - y + z, 8 - z: y is 2 and z is 4.
        self.assertEqual(last(*told, more(5, 60)), [6, 3, 2, 4, 4, 4, 0, 0])
        self.assertEqual(last(*told, more(5, 61)), [-3])

    def test_wanted_now_and_more_may_be_above_what_years_may_tell(self):
        told = (begins(4, NONE_LOST, [1000]), years((8, 0), (8, 0), (0, 4000)))
        self.assertEqual(last(*told, more(2, 0)), [0, 1, 4, 0, 0])
        self.assertEqual(last(*told, more(2, 96001)), [-3])
        self.assertEqual(last(*told, more(2, 100000)), [-3])

    def test_as_if_it_were_told(self):
        for year, pair in ((2, (0, 17)), (3, (0, 22))):
            pairs = [(2, 0), (2, 0), (0, 10), (0, 10)]
            pairs[year] = pair
            told = last(TOLD[0], years(*pairs), best())
            self.assertEqual(last(*TOLD, more(year, pair[1] - 10)), [told[0] - BEST[0]] + told[1:])

    def test_nothing_is_changed_behind_it(self):
        row = follow(2, 1, 0, 0)
        lifted = lift((2, 0), (1, 0), (0, 10), (0, 10))
        ahead = ask(*TOLD, best(), row, lifted, more(3, 10))
        self.assertEqual(ahead[2:], [BEST, [4, 0, 0, 10, 0], [4], [1, 2, 1, 2, 0, 0]])
        behind = ask(*TOLD, more(2, 10), more(3, 11), more(3, 21), best(), row, lifted, more(3, 10))
        self.assertEqual(behind[5:], ahead[2:])
        # Years told once more are those told, not those with more behind them.
        self.assertEqual(ask(*TOLD, more(2, 10), TOLD[1], best())[3:], [[4], BEST])
