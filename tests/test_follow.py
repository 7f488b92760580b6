import unittest

from tests.asking import GREATEST, ask, begins, follow, last, years


class RowsRefused(unittest.TestCase):
    def test_not_as_many_as_there_are_years(self):
        for count in range(7):
            told = years(*[(1, 0)] * count)
            for length in range(9):
                with self.subTest(count=count, length=length):
                    answer = last(told, follow(*[0] * length))
                    self.assertEqual(answer == [-1], count != length)

    def test_a_refusal_goes_ahead_of_a_year_that_cannot_be_done(self):
        told = (years((1, 0), (1, 0)),)
        self.assertEqual(last(*told, follow(GREATEST)), [-1])
        self.assertEqual(last(*told, follow(0, 0, GREATEST)), [-1])

    def test_it_changes_nothing(self):
        told = (begins(2, [0, 0, 0], [5, 3]), years((2, 0), (1, 0)))
        asked = ask(*told, follow(1, 1), follow(1), follow(GREATEST, 0), follow(1, 1))
        self.assertEqual(asked[2:], [[2, 3, 5, 0, 0, 1], [-1], [0, 0, 0, 0, 0, 0], [2, 3, 5, 0, 0, 1]])


class RowsThatDo(unittest.TestCase):
    def test_no_years(self):
        self.assertEqual(last(follow()), [0, 0, 0, 0, 0])
        self.assertEqual(last(begins(4, [1, 2, 3], [9, 9, 9, 9]), follow()), [0, 0, 0, 0, 0, 0, 0, 0])

    def test_all_six_years(self):
        told = (begins(2, [10, 0, 0], [100, 50]), years((2, 0), (1, 0), (0, 90), (2, 50), (0, 85), (1, 130)))
        # Year 0: 1 of age 0. Year 1: 1 of age 1. Year 2: 1 of age 1, 90 lifted, none of them left.
        # Year 3: 2 of age 0; 45 of two years and none of three do not give 50.
        self.assertEqual(last(*told, follow(1, 1, 1, 2, 0, 0)), [3, 45, 45, 0, 0, 0])
        # With 2 sown in year 1 (ages 1 and 0) there are 135 in year 3: 50 lifted, 85 of three years in year 4.
        self.assertEqual(last(*told, follow(1, 2, 0, 2, 0, 0)), [6, 0, 0, 50, 0, 1])

    def test_as_many_as_are_wanted_and_one_less(self):
        told = begins(1, [0, 0, 0], [10])
        self.assertEqual(last(told, years((1, 0), (0, 0), (0, 10)), follow(1, 0, 0)), [3, 0, 0, 0, 0])
        self.assertEqual(last(told, years((1, 0), (0, 0), (0, 11)), follow(1, 0, 0)), [2, 0, 10, 0, 0])

    def test_nothing_wanted_and_nothing_sown(self):
        self.assertEqual(last(begins(0, [0, 0, 0], [0]), years(*[(0, 0)] * 6), follow(*[0] * 6)), [6, 0, 0, 0, 0])


class RowsThatStop(unittest.TestCase):
    def test_more_than_there_are_bags(self):
        told = (begins(4, [0, 0, 0], [10, 5]), years((1, 0), (1, 0), (1, 0)))
        self.assertEqual(last(*told, follow(2, 0, 0)), [0, 0, 0, 0, 0, 0])
        self.assertEqual(last(*told, follow(1, 2, 0)), [1, 10, 0, 0, 0, 0])
        self.assertEqual(last(*told, follow(0, 3, 0)), [1, 0, 0, 0, 0, 1])
        self.assertEqual(last(*told, follow(1, 0, 3)), [2, 0, 10, 0, 0, 1])
        self.assertEqual(last(*told, follow(1, 0, 2)), [3, 15, 0, 10, 0, 0])

    def test_more_than_the_beds_allow(self):
        told = (begins(2, [0, 0, 0], [10, 5]), years((8, 0), (8, 0), (8, 0)))
        self.assertEqual(last(*told, follow(3, 0, 0)), [0, 0, 0, 0, 0, 0])
        self.assertEqual(last(*told, follow(1, 3, 0)), [1, 10, 0, 0, 0, 7])
        self.assertEqual(last(*told, follow(1, 2, 3)), [2, 10, 10, 0, 0, 8])
        self.assertEqual(last(*told, follow(1, 2, 2)), [3, 10, 10, 10, 0, 8])

    def test_the_greatest_number_is_too_many(self):
        self.assertEqual(last(years((8, 0)), follow(GREATEST)), [0, 0, 0, 0, 0])
        self.assertEqual(last(years((8, 0), (0, 0)), follow(1, GREATEST)), [1, 1, 0, 0, 0])

    def test_no_beds(self):
        told = (begins(0, [0, 0, 0], [10, 5]), years((3, 0), (0, 0)))
        self.assertEqual(last(*told, follow(0, 1)), [1, 0, 0, 0, 0, 3])

    def test_too_few_plants(self):
        told = begins(1, [0, 0, 0], [10])
        self.assertEqual(last(told, years((1, 1), (1, 0), (1, 0)), follow(1, 1, 1)), [0, 0, 0, 0, 0])
        self.assertEqual(last(told, years((1, 0), (1, 1), (1, 0)), follow(1, 1, 1)), [1, 10, 0, 0, 0])
        self.assertEqual(last(told, years((1, 0), (1, 0), (1, 11)), follow(1, 1, 1)), [2, 10, 10, 0, 0])
        # In year 3 there are 10 of two and 10 of three years.
        wanted = years((1, 0), (1, 0), (1, 0), (1, 20))
        self.assertEqual(last(told, wanted, follow(1, 1, 1, 1)), [4, 10, 10, 0, 0])
        wanted = years((1, 0), (1, 0), (1, 0), (1, 21))
        self.assertEqual(last(told, wanted, follow(1, 1, 1, 1)), [3, 10, 10, 10, 0])

    def test_a_year_behind_one_that_cannot_be_done_is_not_done(self):
        told = (begins(1, [0, 0, 0], [10]), years((0, 0), (0, 1), (1, 0), (1, 0)))
        self.assertEqual(last(*told, follow(0, 0, 1, 1)), [1, 0, 0, 0, 0])

    def test_bags_gathered_in_the_year_that_stops_are_not_told(self):
        told = (begins(1, [0, 0, 0], [10, 5]), years((0, 0), (7, 1)))
        self.assertEqual(last(*told, follow(0, 1)), [1, 0, 0, 0, 0, 0])


class Bags(unittest.TestCase):
    def test_bags_of_a_year_may_be_sown_in_it(self):
        self.assertEqual(last(begins(1, [0, 0, 0], [7]), years((1, 0)), follow(1)), [1, 7, 0, 0, 0])

    def test_each_age_gives_its_own_seedlings(self):
        told = begins(1, [0, 0, 0], [1000, 200, 30, 4])
        for age, seedlings in enumerate((1000, 200, 30, 4)):
            waiting = [(1, 0)] + [(0, 0)] * age
            with self.subTest(age=age):
                answer = last(told, years(*waiting), follow(*[0] * age, 1))
                self.assertEqual(answer, [age + 1, seedlings, 0, 0, 0, 0, 0, 0])

    def test_the_oldest_first_over_several_ages(self):
        told = (begins(4, [0, 0, 0], [1000, 100, 10, 1]), years((1, 0), (1, 0), (2, 0), (3, 0)))
        # In year 3 there are 3, 2, 1, 1 bags of the ages 0, 1, 2, 3.
        self.assertEqual(last(*told, follow(0, 0, 0, 0)), [4, 0, 0, 0, 0, 3, 2, 1])
        self.assertEqual(last(*told, follow(0, 0, 0, 1)), [4, 1, 0, 0, 0, 3, 2, 1])
        self.assertEqual(last(*told, follow(0, 0, 0, 2)), [4, 11, 0, 0, 0, 3, 2, 0])
        self.assertEqual(last(*told, follow(0, 0, 0, 3)), [4, 111, 0, 0, 0, 3, 1, 0])
        self.assertEqual(last(*told, follow(0, 0, 0, 4)), [4, 211, 0, 0, 0, 3, 0, 0])

    def test_the_oldest_first_down_to_those_of_the_year(self):
        told = (begins(4, [0, 0, 0], [1000, 100, 10]), years((1, 0), (1, 0), (2, 0)))
        self.assertEqual(last(*told, follow(0, 0, 4)), [3, 2110, 0, 0, 0, 0, 0])
        self.assertEqual(last(*told, follow(0, 0, 3)), [3, 1110, 0, 0, 0, 1, 0])

    def test_the_oldest_first_though_it_gives_nothing(self):
        told = (begins(1, [0, 0, 0], [50, 0]), years((1, 0), (1, 0)))
        self.assertEqual(last(*told, follow(0, 1)), [2, 0, 0, 0, 0, 1])

    def test_too_old_bags_are_thrown_away(self):
        for ages in range(1, 5):
            told = begins(1, [0, 0, 0], [9] * ages)
            kept = [(5, 0)] + [(0, 0)] * (ages - 1)
            with self.subTest(ages=ages):
                self.assertEqual(last(told, years(*kept), follow(*[0] * ages)), [ages, 0, 0, 0] + [0] * ages)
                self.assertEqual(last(told, years(*kept, (0, 0)), follow(*[0] * ages, 1)), [ages, 0, 0, 0] + [0] * ages)

    def test_bags_are_a_year_older_behind_each_year(self):
        told = begins(1, [0, 0, 0], [1, 1, 1, 1])
        self.assertEqual(last(told, years((5, 0)), follow(0)), [1, 0, 0, 0, 0, 5, 0, 0])
        self.assertEqual(last(told, years((5, 0), (8, 0)), follow(0, 0)), [2, 0, 0, 0, 0, 8, 5, 0])
        self.assertEqual(last(told, years((5, 0), (8, 0), (3, 0)), follow(0, 0, 0)), [3, 0, 0, 0, 0, 3, 8, 5])
        self.assertEqual(last(told, years(*[(5, 0), (8, 0), (3, 0), (1, 0)]), follow(0, 0, 0, 0)),
                         [4, 0, 0, 0, 0, 1, 3, 8])


class Plants(unittest.TestCase):
    def test_they_grow_and_are_thrown_away(self):
        told = begins(1, [0, 0, 0], [10])
        grown = ([1, 10, 0, 0, 0], [2, 0, 10, 0, 0], [3, 0, 0, 10, 0], [4, 0, 0, 0, 0], [5, 0, 0, 0, 0])
        for behind, answer in enumerate(grown):
            self.assertEqual(last(told, years((1, 0), *[(0, 0)] * behind), follow(1, *[0] * behind)), answer)

    def test_none_of_four_years_are_lifted(self):
        told = (begins(1, [0, 0, 0], [10]), years((1, 0), (0, 0), (0, 0), (0, 0), (0, 1)))
        self.assertEqual(last(*told, follow(1, 0, 0, 0, 0)), [4, 0, 0, 0, 0])

    def test_lost_ones_are_rounded_down(self):
        # 99 of a hundred of 199 are 197.01, 50 of 3 are 1.5, 1 of 99 is 0.99.
        for seedlings, loss, left in (
            (199, 99, 2), (3, 50, 2), (1, 99, 1), (1, 100, 0), (99, 1, 99), (100, 1, 99), (101, 1, 100),
            (1000, 0, 1000), (1000, 100, 0), (7, 33, 5), (0, 50, 0),
        ):
            with self.subTest(seedlings=seedlings, loss=loss):
                told = begins(1, [loss, 0, 0], [seedlings])
                self.assertEqual(last(told, years((1, 0)), follow(1)), [1, left, 0, 0, 0])
                told = begins(1, [0, loss, 0], [seedlings])
                self.assertEqual(last(told, years((1, 0), (0, 0)), follow(1, 0)), [2, 0, left, 0, 0])
                told = begins(1, [0, 0, loss], [seedlings])
                self.assertEqual(last(told, years((1, 0), (0, 0), (0, 0)), follow(1, 0, 0)), [3, 0, 0, left, 0])

    def test_lost_ones_are_rounded_for_all_bags_together(self):
        # 50 of a hundred of 3 * 3 = 9 are 4, not three times 1.
        told = (begins(3, [50, 0, 0], [3, 3]), years((1, 0), (2, 0)))
        self.assertEqual(last(*told, follow(0, 3)), [2, 5, 0, 0, 0, 0])

    def test_each_winter_is_rounded_for_itself(self):
        told = (begins(1, [50, 50, 50], [7]), years((1, 0), (0, 0), (0, 0)))
        self.assertEqual(last(*told, follow(1, 0, 0)), [3, 0, 0, 1, 0])

    def test_they_are_lifted_ahead_of_the_winter(self):
        # 10 of two years: 10 are lifted though the winter takes all; of 10 - 4 half are lost, not of 10.
        told = begins(1, [0, 0, 100], [10])
        self.assertEqual(last(told, years((1, 0), (0, 0), (0, 10)), follow(1, 0, 0)), [3, 0, 0, 0, 0])
        told = begins(1, [0, 0, 50], [10])
        self.assertEqual(last(told, years((1, 0), (0, 0), (0, 4)), follow(1, 0, 0)), [3, 0, 0, 3, 0])

    def test_three_years_first(self):
        told = begins(1, [0, 0, 0], [10])
        # In year 3 there are 10 of two and 10 of three years: what is left of two is told behind it.
        for wanted, left in ((0, 10), (1, 10), (9, 10), (10, 10), (11, 9), (15, 5), (19, 1), (20, 0)):
            with self.subTest(wanted=wanted):
                answer = last(told, years((1, 0), (1, 0), (0, 0), (0, wanted)), follow(1, 1, 0, 0))
                self.assertEqual(answer, [4, 0, 0, left, 0])

    def test_three_years_alone_and_two_years_alone(self):
        told = begins(1, [0, 0, 0], [10])
        self.assertEqual(last(told, years((1, 0), (0, 0), (0, 6)), follow(1, 0, 0)), [3, 0, 0, 4, 0])
        self.assertEqual(last(told, years((1, 0), (0, 0), (0, 6), (0, 4)), follow(1, 0, 0, 0)), [4, 0, 0, 0, 0])
        self.assertEqual(last(told, years((1, 0), (0, 0), (0, 6), (0, 5)), follow(1, 0, 0, 0)), [3, 0, 0, 4, 0])
