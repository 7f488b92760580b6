import unittest

from tests.asking import GREATEST, ask, begins, follow, last, years

# Told ahead of a begins that is refused; the answer of FOLLOWED shows beds, losses, ages, seedlings and years.
TOLD = (begins(2, [10, 20, 30], [100, 50]), years((3, 0), (0, 0), (0, 20)))
FOLLOWED = follow(1, 2, 0)
# 100 - 10 = 90, 90 - 18 = 72; 2 * 50 = 100 - 10 = 90; 72 - 20 = 52, 52 - 15 = 37; 90 - 18 = 72.
ANSWERED = [3, 0, 72, 37, 0, 0]


class BeginsAnswers(unittest.TestCase):
    def test_ordinary(self):
        self.assertEqual(ask(begins(2, [10, 5, 3], [100, 80, 20])), [[3]])
        self.assertEqual(ask(begins(3, [33, 0, 100], [7, 1000])), [[2]])

    def test_beds(self):
        for beds in (0, 1, 4):
            self.assertEqual(ask(begins(beds, [1, 1, 1], [5])), [[1]])
        for beds in (5, 6, GREATEST):
            self.assertEqual(ask(begins(beds, [1, 1, 1], [5])), [[-1]])

    def test_each_loss(self):
        for place in range(3):
            for loss, answer in ((0, 2), (100, 2), (101, -1), (GREATEST, -1)):
                losses = [50, 50, 50]
                losses[place] = loss
                with self.subTest(losses=losses):
                    self.assertEqual(ask(begins(1, losses, [5, 4])), [[answer]])

    def test_how_many_ages(self):
        for ages, answer in ((0, -1), (1, 1), (2, 2), (3, 3), (4, 4), (5, -1), (6, -1)):
            with self.subTest(ages=ages):
                self.assertEqual(ask(begins(1, [0, 0, 0], [9] * ages)), [[answer]])

    def test_seedlings_of_each_age(self):
        for place in range(4):
            for number, answer in ((0, 4), (1000, 4), (1001, -1), (GREATEST, -1)):
                seedlings = [5, 5, 5, 5]
                seedlings[place] = number
                with self.subTest(seedlings=seedlings):
                    self.assertEqual(ask(begins(1, [0, 0, 0], seedlings)), [[answer]])

    def test_several_faults_are_one_refusal(self):
        self.assertEqual(ask(begins(GREATEST, [GREATEST] * 3, [GREATEST] * 6)), [[-1]])
        self.assertEqual(ask(begins(5, [101, 0, 0], [])), [[-1]])


class BeginsTells(unittest.TestCase):
    def test_beds_are_kept(self):
        for beds in range(5):
            told = (begins(beds, [0, 0, 0], [1]), years((8, 0)))
            self.assertEqual(last(*told, follow(beds)), [1, beds, 0, 0, 0])
            self.assertEqual(last(*told, follow(beds + 1)), [0, 0, 0, 0, 0])

    def test_each_loss_is_that_of_its_plants(self):
        told = (begins(1, [10, 20, 50], [100]), years((1, 0), (0, 0), (0, 0)))
        self.assertEqual(last(*told, follow(1, 0, 0)), [3, 0, 0, 36, 0])

    def test_it_stands_instead_of_what_there_was(self):
        told = (begins(4, [50, 50, 50], [8, 7, 6]), begins(1, [0, 0, 0], [3, 2]), years((2, 0)))
        self.assertEqual(last(*told, follow(1)), [1, 3, 0, 0, 0, 1])
        self.assertEqual(last(*told, follow(2)), [0, 0, 0, 0, 0, 0])

    def test_it_leaves_no_years(self):
        told = (years((1, 0), (1, 0)), begins(1, [0, 0, 0], [1, 1]))
        self.assertEqual(last(*told, follow(1, 1)), [-1])
        self.assertEqual(last(*told, follow()), [0, 0, 0, 0, 0, 0])


class BeginsRefused(unittest.TestCase):
    def test_all_is_as_it_was(self):
        self.assertEqual(last(*TOLD, FOLLOWED), ANSWERED)
        refused = [
            begins(5, [0, 0, 0], [1]),
            begins(0, [101, 0, 0], [1]),
            begins(0, [0, 101, 0], [1]),
            begins(0, [0, 0, 101], [1]),
            begins(0, [0, 0, 0], []),
            begins(0, [0, 0, 0], [1] * 5),
            begins(0, [0, 0, 0], [1] * 6),
            begins(0, [0, 0, 0], [1, 1, 1001]),
            begins(GREATEST, [GREATEST] * 3, [GREATEST] * 4),
        ]
        for one in refused:
            with self.subTest(refused=one):
                self.assertEqual(ask(*TOLD, one, FOLLOWED), [[2], [3], [-1], ANSWERED])

    def test_a_new_nursery_stays_new(self):
        asked = (begins(4, [0, 0, 0], []), years((2, 0)), follow(1), follow(2))
        self.assertEqual(ask(*asked), [[-1], [1], [1, 1, 0, 0, 0], [0, 0, 0, 0, 0]])
