import unittest

from tests.asking import ask, begins, best, follow, last, years

NONE_LOST = [0, 0, 0]


class NoRowDoes(unittest.TestCase):
    def test_wanted_ahead_of_the_first_plants(self):
        told = begins(4, NONE_LOST, [1000])
        self.assertEqual(last(told, years((8, 1)), best()), [-6])
        self.assertEqual(last(told, years((8, 1), (8, 0), (8, 0)), best()), [-6])
        self.assertEqual(last(told, years((8, 0), (8, 1), (8, 0)), best()), [-6])

    def test_one_more_than_there_can_be(self):
        told = begins(4, NONE_LOST, [10])
        self.assertEqual(last(told, years((8, 0), (0, 0), (0, 40)), best()), [4, 1, 4, 0, 0])
        self.assertEqual(last(told, years((8, 0), (0, 0), (0, 41)), best()), [-6])
        self.assertEqual(last(told, years((3, 0), (0, 0), (0, 30)), best()), [3, 1, 3, 0, 0])
        self.assertEqual(last(told, years((3, 0), (0, 0), (0, 31)), best()), [-6])
        self.assertEqual(last(told, years((8, 0), (8, 0), (8, 0), (8, 100000)), best()), [-6])

    def test_no_bags_and_none_that_give_anything(self):
        self.assertEqual(last(begins(4, NONE_LOST, [10]), years((0, 0), (0, 0), (0, 1)), best()), [-6])
        self.assertEqual(last(begins(4, NONE_LOST, [10]), years((0, 0), (8, 0), (0, 1)), best()), [-6])
        self.assertEqual(last(begins(4, NONE_LOST, [0]), years((8, 0), (0, 0), (0, 1)), best()), [-6])

    def test_all_are_lost(self):
        # What is wanted in year 3 is sown in year 0, so all three winters take of it.
        told = years((1, 0), (0, 0), (0, 0), (0, 1))
        self.assertEqual(last(begins(1, NONE_LOST, [10]), told, best()), [1, 1, 1, 0, 0, 0])
        for losses in ([100, 0, 0], [0, 100, 0], [0, 0, 100]):
            with self.subTest(losses=losses):
                self.assertEqual(last(begins(1, losses, [10]), told, best()), [-6])

    def test_it_changes_nothing(self):
        told = (begins(4, [50, 0, 0], [10, 4]), years((2, 0), (0, 0), (0, 11)))
        asked = ask(*told, follow(1, 1, 0), best(), follow(1, 1, 0), best())
        self.assertEqual(asked[2:], [[2, 2, 5, 0, 0, 0], [-6]] * 2)


class BestRow(unittest.TestCase):
    def test_no_years(self):
        self.assertEqual(ask(best()), [[0, 1]])
        self.assertEqual(ask(begins(4, NONE_LOST, [9, 9]), best(), years((1, 0)), years(), best()),
                         [[2], [0, 1], [1], [0], [0, 1]])

    def test_nothing_wanted(self):
        for count in range(7):
            told = (begins(4, NONE_LOST, [9]), years(*[(8, 0)] * count))
            self.assertEqual(last(*told, best()), [0, 1] + [0] * count)

    def test_the_nursery_at_the_beginning(self):
        self.assertEqual(last(years((1, 0), (0, 0), (0, 1)), best()), [1, 1, 1, 0, 0])
        self.assertEqual(last(years((2, 0), (0, 0), (0, 2)), best()), [-6])

    def test_one_row_alone(self):
        told = begins(1, NONE_LOST, [10])
        self.assertEqual(last(told, years((1, 0), (0, 0), (0, 10)), best()), [1, 1, 1, 0, 0])
        self.assertEqual(last(told, years((1, 0), (1, 0), (0, 10), (0, 10)), best()), [2, 1, 1, 1, 0, 0])

    def test_rows_that_differ_at_the_first_year(self):
        # The bag may be sown in year 0, or in year 1 as one of age 1.
        told = (begins(1, NONE_LOST, [10, 10]), years((1, 0), (0, 0), (0, 0), (0, 10)))
        self.assertEqual(last(*told, best()), [1, 2, 0, 1, 0, 0])

    def test_rows_that_differ_at_a_middle_year(self):
        # Year 2 asks for a bag in year 0; year 4 for one in year 1 or, of age 1, in year 2.
        told = (begins(1, NONE_LOST, [10, 10]), years((1, 0), (1, 0), (0, 10), (0, 0), (0, 10)))
        self.assertEqual(last(*told, best()), [2, 2, 1, 0, 1, 0, 0])

    def test_rows_that_differ_at_the_last_year_or_the_one_ahead_of_it(self):
        # Rows with bags in the last two years do too, but have more.
        told = (begins(1, NONE_LOST, [10]), years((1, 0), (1, 0), (1, 10)))
        self.assertEqual(last(*told, follow(1, 0, 1))[0], 3)
        self.assertEqual(last(*told, follow(1, 1, 0))[0], 3)
        self.assertEqual(last(*told, best()), [1, 1, 1, 0, 0])

    def test_fewer_bags_go_ahead_of_an_earlier_row(self):
        # A bag of year 0 gives 10, one of year 1 but 5 when it is of age 1, and so two are asked for.
        told = (begins(4, NONE_LOST, [10, 5]), years((2, 0), (0, 0), (0, 0), (0, 10)))
        self.assertEqual(last(*told, follow(0, 2, 0, 0))[0], 4)
        self.assertEqual(last(*told, best()), [1, 1, 1, 0, 0, 0])

    def test_beds(self):
        told = years((4, 0), (4, 0), (0, 0), (0, 40))
        self.assertEqual(last(begins(0, NONE_LOST, [10]), told, best()), [-6])
        self.assertEqual(last(begins(0, NONE_LOST, [10]), years((4, 0), (4, 0), (0, 0)), best()), [0, 1, 0, 0, 0])
        self.assertEqual(last(begins(1, NONE_LOST, [10]), told, best()), [-6])
        self.assertEqual(last(begins(1, NONE_LOST, [20]), told, best()), [2, 1, 1, 1, 0, 0])
        self.assertEqual(last(begins(2, NONE_LOST, [10]), told, best()), [4, 1, 2, 2, 0, 0])
        self.assertEqual(last(begins(3, NONE_LOST, [10]), told, best()), [4, 3, 1, 3, 0, 0])
        self.assertEqual(last(begins(4, NONE_LOST, [10]), told, best()), [4, 5, 0, 4, 0, 0])

    def test_the_loss_of_two_year_plants_counts_for_those_that_stay(self):
        told = years((4, 0), (4, 0), (0, 0), (0, 40))
        self.assertEqual(last(begins(4, [0, 0, 10], [10]), told, best()), [4, 1, 0, 4, 0, 0])

    def test_each_age(self):
        seedlings = [40, 30, 20, 10]
        for ages in range(1, 5):
            # One bag is sown in each of the years in which the seed of year 0 can be.
            wanted = [0, 0] + seedlings[:ages] + [0] * (4 - ages)
            pairs = [(4 if year == 0 else 0, wanted[year]) for year in range(6)]
            with self.subTest(ages=ages):
                row = [1] * ages + [0] * (6 - ages)
                self.assertEqual(last(begins(1, NONE_LOST, seedlings[:ages]), years(*pairs), best()), [ages, 1] + row)
                if ages > 1:
                    self.assertEqual(last(begins(1, NONE_LOST, seedlings[:ages - 1]), years(*pairs), best()), [-6])

    def test_the_oldest_bags_are_sown_first(self):
        told = years((1, 0), (1, 0), (0, 0), (0, 50))
        self.assertEqual(last(begins(2, NONE_LOST, [50, 0]), told, best()), [1, 1, 1, 0, 0, 0])
        # What is sown in year 0 is lost; the bag of year 0 is sown all the same, by itself or ahead of that of year 1.
        self.assertEqual(last(begins(2, [0, 0, 100], [50, 0]), told, best()), [2, 2, 0, 2, 0, 0])

    def test_three_years_first(self):
        # 20 plants from two years' sowings do for years 3 and 4 only if the older are lifted first.
        told = (begins(1, NONE_LOST, [10]), years((1, 0), (1, 0), (0, 0), (0, 10), (0, 10)))
        self.assertEqual(last(*told, best()), [2, 1, 1, 1, 0, 0, 0])


class SixYearsAndFourBeds(unittest.TestCase):
    def test_all_beds_are_needed(self):
        told = (begins(4, NONE_LOST, [10]), years((8, 0), (8, 0), (8, 40), (8, 40), (8, 40), (8, 40)))
        self.assertEqual(last(*told, best()), [16, 1, 4, 4, 4, 4, 0, 0])

    def test_the_last_year_alone(self):
        told = (begins(4, NONE_LOST, [10]), years((8, 0), (8, 0), (8, 0), (8, 0), (8, 0), (8, 40)))
        self.assertEqual(last(*told, best()), [4, 5, 0, 0, 0, 4, 0, 0])

    def test_many_rows_as_good(self):
        # Of each year's sowing 0 to 2 bags may stand for a bag of the year behind it: 3 * 3 * 3 rows.
        told = (begins(4, NONE_LOST, [10]), years((8, 0), (8, 0), (8, 20), (8, 20), (8, 20), (8, 20)))
        self.assertEqual(last(*told, best()), [8, 27, 2, 2, 2, 2, 0, 0])

    def test_no_row(self):
        told = (begins(4, NONE_LOST, [10]), years((8, 0), (8, 0), (8, 0), (8, 0), (8, 0), (8, 81)))
        self.assertEqual(last(*told, best()), [-6])
