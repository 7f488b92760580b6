"""Follows rows in another way, by the year in which bags were gathered and plants were sown, and compares."""
import random
import unittest
from fractions import Fraction
from math import floor

from tests.asking import begins, follow, last, years


def can_be_done(beds, seedlings, bags, plants, year, sown, wanted):
    """Sows and lifts in bags (by year gathered) and plants (by year sown); False if the year can't be done."""
    young = [when for when in sorted(bags) for bag in range(bags[when])]
    if sown > min(beds, len(young)):
        return False
    plants[year] = 0
    for when in young[:sown]:
        bags[when] -= 1
        plants[year] += seedlings[year - when]
    for when in (year - 3, year - 2):
        lifted = min(plants.get(when, 0), wanted)
        wanted -= lifted
        if lifted:
            plants[when] -= lifted
    return wanted == 0


def followed(beds, losses, seedlings, pairs, row):
    bags, plants = {}, {}
    done = 0
    for year, sown in enumerate(row):
        now_bags, now_plants = dict(bags), dict(plants)
        now_bags[year] = pairs[year][0]
        if not can_be_done(beds, seedlings, now_bags, now_plants, year, sown, pairs[year][1]):
            break
        done = year + 1
        bags = {when: bag for when, bag in now_bags.items() if done - when < len(seedlings)}
        plants = {when: plant - floor(Fraction(plant * losses[year - when], 100))
                  for when, plant in now_plants.items() if year - when < 3}
    return ([done] + [plants.get(done - age, 0) for age in (1, 2, 3)]
            + [bags.get(done - age, 0) for age in range(len(seedlings))])


def drawn_case(source):
    """A nursery, its years and a row, mostly within what can be done so that rows get far."""
    seedlings = [source.choice((0, 1, 7, 99, 333, 1000)) for age in range(source.randint(1, 4))]
    losses = [source.choice((0, 1, 10, 33, 50, 99, 100)) for kind in range(3)]
    count = source.randint(0, 6)
    pairs = [(source.randint(0, 8), source.choice((0, 0, source.randint(0, 300)))) for year in range(count)]
    row = [source.choice((0, 1, 1, 2, 3, 4, 5)) for year in range(count)]
    return source.randint(0, 4), losses, seedlings, pairs, row


class ReckonedOtherwise(unittest.TestCase):
    def test_follow(self):
        source = random.Random(1)
        stops = {}
        for number in range(20000):
            beds, losses, seedlings, pairs, row = drawn_case(source)
            with self.subTest(case=(beds, losses, seedlings, pairs, row)):
                wanted = followed(beds, losses, seedlings, pairs, row)
                self.assertEqual(last(begins(beds, losses, seedlings), years(*pairs), follow(*row)), wanted)
            stops[(len(row), wanted[0])] = True
        # Rows of each length stop at each year, and do all years, somewhere among these.
        self.assertEqual(len(stops), 28)
