import unittest

from tests.asking import GREATEST, ask, begins, follow, last, lift, years

# A bag gives 10 plants, and nothing is lost.
TENS = begins(1, [0, 0, 0], [10])


class LiftRefused(unittest.TestCase):
    def test_not_as_many_as_there_are_years(self):
        for count in range(7):
            told = years(*[(1, 0)] * count)
            for length in range(9):
                with self.subTest(count=count, length=length):
                    answer = last(told, lift(*[(0, 0)] * length))
                    self.assertEqual(answer, [count] if count == length else [-1])

    def test_a_refusal_goes_ahead_of_a_year_that_cannot_be_done(self):
        told = years((1, 0), (1, 0))
        self.assertEqual(last(told, lift((GREATEST, GREATEST))), [-1])
        self.assertEqual(last(told, lift((0, 0), (0, 0), (GREATEST, 0))), [-1])

    def test_it_changes_nothing(self):
        told = (begins(2, [0, 0, 0], [5, 3]), years((2, 0), (1, 0)))
        asked = ask(*told, follow(1, 1), lift((1, 0)), lift((2, 0), (1, 0)), lift((GREATEST, 0), (0, 0)), follow(1, 1),
                    lift((2, 0), (1, 0)))
        self.assertEqual(asked[2:], [[2, 3, 5, 0, 0, 1], [-1], [2], [0], [2, 3, 5, 0, 0, 1], [2]])


class LiftDoneWhole(unittest.TestCase):
    def test_no_years(self):
        self.assertEqual(last(lift()), [0])
        self.assertEqual(last(begins(4, [1, 2, 3], [9, 9, 9, 9]), lift()), [0])

    def test_nothing_wanted_and_nothing_sown(self):
        self.assertEqual(last(begins(0, [0, 0, 0], [0]), years(*[(0, 0)] * 6), lift(*[(0, 0)] * 6)), [6])

    def test_six_years(self):
        told = (begins(2, [10, 0, 0], [100, 50]), years((2, 0), (1, 0), (0, 90), (2, 50), (0, 85), (1, 130)))
        # In year 3 there are 135 of two years, in year 4 what is left of them is of three, in year 5 180 are of two.
        self.assertEqual(last(*told, lift((1, 0), (2, 0), (0, 90), (2, 50), (0, 0), (0, 130))), [6])
        self.assertEqual(last(*told, lift((1, 0), (2, 0), (0, 90), (2, 50), (0, 1), (0, 130))), [4])

    def test_the_oldest_bags_are_sown_first(self):
        told = (begins(2, [0, 0, 0], [10, 1]), years((1, 0), (1, 0), (0, 0), (0, 1), (0, 10)))
        self.assertEqual(last(*told, lift((0, 0), (1, 0), (1, 0), (0, 1), (0, 1))), [4])
        self.assertEqual(last(*told, lift((0, 0), (2, 0), (0, 0), (0, 1), (0, 0))), [5])


class LiftStops(unittest.TestCase):
    def test_more_sown_than_there_are_bags(self):
        told = (begins(4, [0, 0, 0], [10, 5]), years((1, 0), (1, 0), (1, 0)))
        self.assertEqual(last(*told, lift((2, 0), (0, 0), (0, 0))), [0])
        self.assertEqual(last(*told, lift((1, 0), (2, 0), (0, 0))), [1])
        self.assertEqual(last(*told, lift((0, 0), (3, 0), (0, 0))), [1])
        self.assertEqual(last(*told, lift((1, 0), (0, 0), (3, 0))), [2])
        self.assertEqual(last(*told, lift((1, 0), (0, 0), (2, 0))), [3])

    def test_more_sown_than_the_beds_allow(self):
        told = (begins(2, [0, 0, 0], [10, 5]), years((8, 0), (8, 0), (8, 0)))
        self.assertEqual(last(*told, lift((3, 0), (0, 0), (0, 0))), [0])
        self.assertEqual(last(*told, lift((1, 0), (3, 0), (0, 0))), [1])
        self.assertEqual(last(*told, lift((1, 0), (2, 0), (3, 0))), [2])
        self.assertEqual(last(*told, lift((1, 0), (2, 0), (2, 0))), [3])
        self.assertEqual(last(*told, lift((1, 0), (GREATEST, 0), (2, 0))), [1])

    def test_more_of_two_years_told_than_are_wanted(self):
        self.assertEqual(last(TENS, years((1, 0), (1, 0)), lift((1, 1), (1, 0))), [0])
        self.assertEqual(last(TENS, years((1, 0), (1, 0)), lift((1, GREATEST), (1, 0))), [0])
        middle = years((1, 0), (1, 0), (0, 3), (0, 0))
        self.assertEqual(last(TENS, middle, lift((1, 0), (1, 0), (0, 4), (0, 0))), [2])
        self.assertEqual(last(TENS, middle, lift((1, 0), (1, 0), (0, 3), (0, 0))), [4])
        self.assertEqual(last(TENS, middle, lift((1, 0), (1, 0), (0, 3), (0, 1))), [3])
        # In year 3 there are 10 of two and 10 of three years.
        at_last = years((1, 0), (1, 0), (0, 0), (0, 3))
        self.assertEqual(last(TENS, at_last, lift((1, 0), (1, 0), (0, 0), (0, 4))), [3])
        self.assertEqual(last(TENS, at_last, lift((1, 0), (1, 0), (0, 0), (0, 10))), [3])
        for told in range(4):
            self.assertEqual(last(TENS, at_last, lift((1, 0), (1, 0), (0, 0), (0, told))), [4])

    def test_more_of_two_years_than_there_are(self):
        self.assertEqual(last(TENS, years((1, 1), (1, 0)), lift((1, 1), (1, 0))), [0])
        # One-year plants are none of two years.
        self.assertEqual(last(TENS, years((1, 0), (1, 1)), lift((1, 0), (1, 1))), [1])
        self.assertEqual(last(TENS, years((1, 0), (1, 0), (0, 11), (0, 0)), lift((1, 0), (1, 0), (0, 11), (0, 0))), [2])
        self.assertEqual(last(TENS, years((1, 0), (1, 0), (0, 10), (0, 0)), lift((1, 0), (1, 0), (0, 10), (0, 0))), [4])
        # In year 3 there are 10 of two and 10 of three years: 20 in all do not help.
        at_last = years((1, 0), (1, 0), (0, 0), (0, 11))
        self.assertEqual(last(TENS, at_last, lift((1, 0), (1, 0), (0, 0), (0, 11))), [3])
        self.assertEqual(last(TENS, at_last, lift((1, 0), (1, 0), (0, 0), (0, 10))), [4])

    def test_too_few_of_three_years(self):
        self.assertEqual(last(TENS, years((1, 1), (1, 0)), lift((1, 0), (1, 0))), [0])
        # In year 2 there are 10 of two years, and none of three.
        middle = years((1, 0), (1, 0), (0, 5), (0, 0))
        self.assertEqual(last(TENS, middle, lift((1, 0), (1, 0), (0, 0), (0, 0))), [2])
        self.assertEqual(last(TENS, middle, lift((1, 0), (1, 0), (0, 4), (0, 0))), [2])
        self.assertEqual(last(TENS, middle, lift((1, 0), (1, 0), (0, 5), (0, 0))), [4])
        at_last = years((1, 0), (1, 0), (0, 0), (0, 12))
        self.assertEqual(last(TENS, at_last, lift((1, 0), (1, 0), (0, 0), (0, 0))), [3])
        self.assertEqual(last(TENS, at_last, lift((1, 0), (1, 0), (0, 0), (0, 1))), [3])
        self.assertEqual(last(TENS, at_last, lift((1, 0), (1, 0), (0, 0), (0, 2))), [4])

    def test_plants_of_four_years_are_thrown_away(self):
        told = years((1, 0), (0, 0), (0, 0), (0, 0), (0, 1))
        self.assertEqual(last(TENS, told, lift((1, 0), (0, 0), (0, 0), (0, 0), (0, 0))), [4])

    def test_a_year_behind_one_that_cannot_be_done_is_not_done(self):
        told = years((1, 0), (0, 1), (1, 0), (1, 0))
        self.assertEqual(last(TENS, told, lift((1, 0), (0, 0), (1, 0), (1, 0))), [1])


class LiftOtherwiseThanFollow(unittest.TestCase):
    def test_two_years_ahead_of_three(self):
        told = years((1, 0), (1, 0), (0, 0), (0, 10), (0, 10))
        self.assertEqual(last(TENS, told, follow(1, 1, 0, 0, 0)), [5, 0, 0, 0, 0])
        self.assertEqual(last(TENS, told, lift((1, 0), (1, 0), (0, 0), (0, 0), (0, 0))), [5])
        # Those of three years that stay are thrown away, and one is missing a year later.
        for of_two in range(1, 11):
            self.assertEqual(last(TENS, told, lift((1, 0), (1, 0), (0, 0), (0, of_two), (0, 0))), [4])

    def test_as_many_of_two_years_as_are_not_wanted_later(self):
        told = years((1, 0), (1, 0), (0, 0), (0, 10), (0, 5))
        self.assertEqual(last(TENS, told, lift((1, 0), (1, 0), (0, 0), (0, 5), (0, 0))), [5])
        self.assertEqual(last(TENS, told, lift((1, 0), (1, 0), (0, 0), (0, 6), (0, 0))), [4])

    def test_the_winter_takes_of_those_that_stay(self):
        # Of 10 - 4 = 6 of two years half are lost.
        fifty = begins(1, [0, 0, 50], [10])
        self.assertEqual(last(fifty, years((1, 0), (0, 0), (0, 4), (0, 3)), lift((1, 0), (0, 0), (0, 4), (0, 0))), [4])
        self.assertEqual(last(fifty, years((1, 0), (0, 0), (0, 4), (0, 4)), lift((1, 0), (0, 0), (0, 4), (0, 0))), [3])
