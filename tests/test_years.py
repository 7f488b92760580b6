import unittest

from tests.asking import GREATEST, ask, begins, follow, last, years


class YearsAnswers(unittest.TestCase):
    def test_how_many(self):
        for count, answer in ((0, 0), (1, 1), (2, 2), (5, 5), (6, 6), (7, -1), (8, -1)):
            with self.subTest(count=count):
                self.assertEqual(ask(years(*[(1, 2)] * count)), [[answer]])

    def test_gathered_and_wanted_in_each_year(self):
        for place in range(6):
            for pair, answer in (
                ((0, 0), 6), ((8, 0), 6), ((9, 0), -1), ((GREATEST, 0), -1),
                ((0, 100000), 6), ((8, 100000), 6), ((0, 100001), -1), ((0, GREATEST), -1), ((9, 100001), -1),
            ):
                pairs = [(1, 1)] * 6
                pairs[place] = pair
                with self.subTest(pairs=pairs):
                    self.assertEqual(ask(years(*pairs)), [[answer]])

    def test_gathered_may_not_be_as_many_as_wanted_may(self):
        self.assertEqual(ask(years((8, 9)), years((9, 8))), [[1], [-1]])


class YearsTell(unittest.TestCase):
    def test_gathered_and_wanted_are_those_of_their_years(self):
        told = (begins(4, [0, 0, 0], [10]), years((3, 0), (2, 0), (0, 30), (0, 20)))
        self.assertEqual(last(*told, follow(3, 2, 0, 0)), [4, 0, 0, 0, 0])
        self.assertEqual(last(*told, follow(2, 2, 0, 0)), [2, 20, 20, 0, 0])
        self.assertEqual(last(*told, follow(3, 1, 0, 0)), [3, 0, 10, 0, 0])
        self.assertEqual(last(*told, follow(2, 3, 0, 0)), [1, 20, 0, 0, 0])

    def test_the_greatest_numbers_are_kept(self):
        told = (begins(4, [0, 0, 0], [1000, 1000]), years((8, 0), (0, 0), (0, 4000)))
        self.assertEqual(last(*told, follow(4, 4, 0)), [3, 0, 4000, 0, 0, 0])
        told = (begins(4, [0, 0, 0], [1000]), years((4, 0), (0, 0), (0, 100000)))
        self.assertEqual(last(*told, follow(4, 0, 0)), [2, 0, 4000, 0, 0])

    def test_they_stand_instead_of_those_there_were(self):
        told = (years((1, 0), (1, 0), (1, 0)), years((0, 0), (1, 0)))
        self.assertEqual(last(*told, follow(0, 1)), [2, 1, 0, 0, 0])
        self.assertEqual(last(*told, follow(1, 1)), [0, 0, 0, 0, 0])
        self.assertEqual(last(*told, follow(1, 1, 1)), [-1])

    def test_none_stand_instead_of_some(self):
        self.assertEqual(ask(years((1, 0)), years(), follow(1), follow()), [[1], [0], [-1], [0, 0, 0, 0, 0]])

    def test_the_nursery_stays(self):
        told = (begins(2, [50, 0, 0], [10, 4]), years((1, 0)), years((2, 0)))
        self.assertEqual(last(*told, follow(2)), [1, 10, 0, 0, 0, 0])


class YearsRefused(unittest.TestCase):
    def test_all_is_as_it_was(self):
        told = (begins(2, [10, 0, 0], [10, 4]), years((2, 0), (0, 0)))
        refused = [
            years(*[(0, 0)] * 7),
            years(*[(0, 0)] * 8),
            years((9, 0), (9, 0)),
            years((0, 0), (9, 0)),
            years((0, 100001), (0, 0)),
            years((0, 0), (0, GREATEST)),
        ]
        for one in refused:
            with self.subTest(refused=one):
                self.assertEqual(ask(*told, one, follow(1, 1)), [[2], [2], [-1], [2, 4, 9, 0, 0, 0]])

    def test_no_years_stay_none(self):
        self.assertEqual(ask(years((9, 0)), follow(), follow(0)), [[-1], [0, 0, 0, 0, 0], [-1]])
