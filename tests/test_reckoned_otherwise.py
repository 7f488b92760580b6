"""Holds the answers against a second reckoning, which goes through all rows one by one."""
import random
import unittest

from tests.asking import ask, begins, best, follow, last, lift, more, years
from tests.reckoning import (
    Case, best_of, best_with_more, followed, gone_through, lifted, rows_that_do, steps_that_do,
)


def told(case):
    return begins(case.beds, case.losses, case.seedlings), years(*case.pairs)


def drawn_case(source):
    """A nursery and its years, mostly such that rows get far."""
    seedlings = [source.choice((0, 1, 7, 99, 333, 1000)) for age in range(source.randint(1, 4))]
    losses = [source.choice((0, 1, 10, 33, 50, 99, 100)) for kind in range(3)]
    count = source.randint(0, 6)
    pairs = [(source.randint(0, 8), source.choice((0, 0, source.randint(0, 300)))) for year in range(count)]
    return Case(source.randint(0, 4), losses, seedlings, pairs)


def drawn_row(source, case):
    return [source.choice((0, 1, 1, 2, 3, 4, 5)) for pair in case.pairs]


def drawn_steps(source, case):
    """Sown and lifted, mostly such that a year can be done, else often by one too many or too few."""
    steps = []
    for year, (gathered, wanted) in enumerate(case.pairs):
        plants = gone_through(case, steps)[1][1]
        two, three = plants.get(year - 2, 0), plants.get(year - 3, 0)
        edges = [0, min(two, wanted), max(wanted - three, 0), max(wanted - three, 0), max(wanted - three - 1, 0),
                 two + 1, wanted + 1, source.randint(0, wanted)]
        steps.append((source.choice((0, 1, 1, 1, 2, 3, case.beds, 5)), source.choice(edges)))
    return steps


def drawn_small_case(source, years_at_most, beds_at_most):
    """Few rows, and wanted plants near to what a row gives."""
    seedlings = [source.choice((0, 3, 7, 10, 13, 20)) for age in range(source.randint(1, 4))]
    losses = [source.choice((0, 0, 1, 10, 33, 50, 100)) for kind in range(3)]
    pairs = [(source.randint(0, 4), 0 if year < 2 else source.choice((0, source.randint(0, 25))))
             for year in range(source.randint(0, years_at_most))]
    if pairs and source.randint(0, 19) == 0:
        pairs[0] = (pairs[0][0], 1)
    return Case(source.randint(0, beds_at_most), losses, seedlings, pairs)


def drawn_large_case(source):
    seedlings = [source.randint(15, 40) for age in range(source.randint(1, 4))]
    losses = [source.choice((0, 5, 10, 20)) for kind in range(3)]
    pairs = [(source.randint(2, 8), 0 if year < 2 else source.randint(0, 50)) for year in range(6)]
    return Case(4, losses, seedlings, pairs)


class ReckonedOtherwise(unittest.TestCase):
    def test_follow(self):
        source = random.Random(1)
        stops = {}
        for number in range(20000):
            case = drawn_case(source)
            row = drawn_row(source, case)
            with self.subTest(case=case, row=row):
                answer = followed(case, row)
                self.assertEqual(last(*told(case), follow(*row)), answer)
            stops[(len(row), answer[0])] = True
        # Rows of each length stop at each year, and do all years, somewhere among these.
        self.assertEqual(len(stops), 28)

    def test_lift(self):
        source = random.Random(2)
        stops = {}
        for number in range(20000):
            case = drawn_case(source)
            steps = drawn_steps(source, case)
            with self.subTest(case=case, steps=steps):
                answer = lifted(case, steps)
                self.assertEqual(last(*told(case), lift(*steps)), answer)
            stops[(len(steps), answer[0])] = True
        self.assertEqual(len(stops), 28)

    def test_best_and_more(self):
        source = random.Random(3)
        firsts = {}
        for number in range(600):
            case = drawn_small_case(source, 5, 3 if number % 4 else 2)
            wanted = source.choice((0, 1, 2, 5, 10, 30))
            year = source.randint(0, len(case.pairs) - 1) if case.pairs else 0
            with self.subTest(case=case, year=year, wanted=wanted):
                answer = best_of(rows_that_do(case))
                with_more = best_with_more(case, year, wanted) if case.pairs else [-2]
                self.assertEqual(ask(*told(case), best(), more(year, wanted), best())[2:], [answer, with_more, answer])
            firsts[("best", answer[0])] = True
            firsts[("more", with_more[0])] = True
            firsts[("rows", len(answer) > 1 and answer[1] > 1)] = True
        # No row, no bag and some bags; and -2, -3, -6, none and some more; one row and several.
        for first in (("best", -6), ("best", 0), ("best", 1), ("best", 4), ("more", -2), ("more", -3), ("more", -6),
                      ("more", 0), ("more", 1), ("more", 2), ("rows", True), ("rows", False)):
            self.assertIn(first, firsts)

    def test_best_and_more_with_six_years_and_four_beds(self):
        source = random.Random(4)
        for number in range(4):
            case = drawn_large_case(source)
            year = source.randint(2, 5)
            with self.subTest(case=case, year=year):
                asked = ask(*told(case), best(), more(year, 12))
                self.assertEqual(asked[2:], [best_of(rows_that_do(case)), best_with_more(case, year, 12)])

    def test_whichever_plants_are_lifted(self):
        source = random.Random(5)
        otherwise = 0
        for number in range(150):
            seedlings = [source.randint(0, 4) for age in range(source.randint(1, 2))]
            pairs = [(source.randint(0, 2), 0 if year < 2 else source.randint(0, 3)) for year in range(5)]
            case = Case(source.randint(1, 2), [source.choice((0, 25, 50)) for kind in range(3)], seedlings, pairs)
            with self.subTest(case=case):
                ways = steps_that_do(case)
                rows = {tuple(sown for sown, of_two in steps) for steps in ways}
                # Those of three years first does, too; and no row has fewer bags, however its plants are lifted.
                for row in rows:
                    self.assertEqual(last(*told(case), follow(*row))[0], 5)
                self.assertEqual(last(*told(case), best())[0], min(map(sum, rows), default=-6))
                for steps in ways[:5]:
                    self.assertEqual(last(*told(case), lift(*steps)), [5])
                otherwise += len(ways) - len(rows)
        self.assertGreater(otherwise, 100)
