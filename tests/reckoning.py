"""Reckons a nursery in another way, by the year in which bags were gathered and plants were sown, row by row."""
from fractions import Fraction
from itertools import product
from math import floor


class Case:
    """A nursery and its years; a state is (bags by year gathered, plants by year sown) ahead of a year."""

    def __init__(self, beds, losses, seedlings, pairs):
        self.beds = beds
        self.losses = losses
        self.seedlings = seedlings
        self.pairs = pairs

    def __repr__(self):
        return f"Case({self.beds}, {self.losses}, {self.seedlings}, {self.pairs})"

    def wanting(self, year, wanted):
        pairs = list(self.pairs)
        pairs[year] = (pairs[year][0], pairs[year][1] + wanted)
        return Case(self.beds, self.losses, self.seedlings, pairs)


def behind(case, state, year, sown, of_two):
    """The state a year later, or None; of_two None lifts those of three years first."""
    bags, plants = dict(state[0]), dict(state[1])
    gathered, wanted = case.pairs[year]
    bags[year] = gathered
    there = [when for when in sorted(bags) for bag in range(bags[when])]
    if sown > min(case.beds, len(there)):
        return None
    plants[year] = 0
    for when in there[:sown]:
        bags[when] -= 1
        plants[year] += case.seedlings[year - when]
    if of_two is None:
        of_three = min(plants.get(year - 3, 0), wanted)
        of_two = wanted - of_three
    else:
        of_three = wanted - of_two
    for when, lifted in ((year - 3, of_three), (year - 2, of_two)):
        if not 0 <= lifted <= plants.get(when, 0):
            return None
        plants[when] = plants.get(when, 0) - lifted
    return ({when: bag for when, bag in bags.items() if year + 1 - when < len(case.seedlings)},
            {when: plant - floor(Fraction(plant * case.losses[year - when], 100))
             for when, plant in plants.items() if 0 <= year - when < 3})


def gone_through(case, steps):
    """How many years can be done, and the state behind them; a step is (sown, of_two)."""
    state = ({}, {})
    for year, (sown, of_two) in enumerate(steps):
        then = behind(case, state, year, sown, of_two)
        if then is None:
            return year, state
        state = then
    return len(steps), state


def followed(case, row):
    done, (bags, plants) = gone_through(case, [(sown, None) for sown in row])
    return ([done] + [plants.get(done - age, 0) for age in (1, 2, 3)]
            + [bags.get(done - age, 0) for age in range(len(case.seedlings))])


def lifted(case, steps):
    return [gone_through(case, steps)[0]]


def all_rows(case):
    return product(range(case.beds + 1), repeat=len(case.pairs))


def rows_that_do(case):
    return [row for row in all_rows(case) if followed(case, row)[0] == len(row)]


def best_of(rows):
    if not rows:
        return [-6]
    fewest = min(map(sum, rows))
    as_few = [row for row in rows if sum(row) == fewest]
    return [fewest, len(as_few), *min(as_few)]


def best_with_more(case, year, wanted):
    now = best_of(rows_that_do(case))
    then = best_of(rows_that_do(case.wanting(year, wanted)))
    if now == [-6]:
        return now
    if then == [-6]:
        return [-3]
    return [then[0] - now[0]] + then[1:]


def steps_that_do(case):
    """Each way through all years, whichever plants are lifted."""
    ways = [([], ({}, {}))]
    for year, (gathered, wanted) in enumerate(case.pairs):
        longer = []
        for steps, state in ways:
            for step in product(range(case.beds + 1), range(wanted + 1)):
                then = behind(case, state, year, *step)
                if then is not None:
                    longer.append((steps + [step], then))
        ways = longer
    return [steps for steps, state in ways]
