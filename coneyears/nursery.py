"""A nursery's calls: what it is told, and what a row of sowings comes to, year by year."""

MOST_BEDS = 4
MOST_LOSS = 100
MOST_AGES = 4
MOST_SEEDLINGS = 1000
MOST_YEARS = 6
MOST_GATHERED = 8
MOST_WANTED = 100000

BEGINS = 0
YEARS = 1
FOLLOW = 2

NOT_AS_TOLD = -1


class UnknownCall(Exception):
    """A call's number is none that the nursery answers."""


class Nursery:
    """What is told of a nursery and of its years."""

    def __init__(self):
        self.beds = 1
        self.losses = [0, 0, 0]
        self.seedlings = [1]
        self.gathered = []
        self.wanted = []


class Stock:
    """What there is between two years: plants of one, two, three years, and bags by age."""

    def __init__(self, plants, bags):
        self.plants = plants
        self.bags = bags


def answers(calls):
    """For each call in order: how many numbers are answered, then these."""
    nursery = Nursery()
    answered = []
    place = 0
    while place < len(calls):
        start = place + 2
        end = start + calls[place + 1]
        answer = answer_call(nursery, calls[place], calls[start:end])
        answered.append(len(answer))
        answered.extend(answer)
        # One number more stands at a call's end: how many lists it has, and no call has any.
        place = end + 1
    return answered


def answer_call(nursery, call, numbers):
    if call == BEGINS:
        return answer_begins(nursery, numbers)
    if call == YEARS:
        return answer_years(nursery, numbers)
    if call == FOLLOW:
        return answer_follow(nursery, numbers)
    raise UnknownCall(f"no call has the number {call}")


def answer_begins(nursery, numbers):
    beds = numbers[0]
    losses = numbers[1:4]
    seedlings = numbers[4:]
    if beds > MOST_BEDS or any_above(losses, MOST_LOSS):
        return [NOT_AS_TOLD]
    if len(seedlings) < 1 or len(seedlings) > MOST_AGES or any_above(seedlings, MOST_SEEDLINGS):
        return [NOT_AS_TOLD]
    nursery.beds = beds
    nursery.losses = losses
    nursery.seedlings = seedlings
    nursery.gathered = []
    nursery.wanted = []
    return [len(seedlings)]


def answer_years(nursery, numbers):
    gathered = numbers[0::2]
    wanted = numbers[1::2]
    if len(gathered) > MOST_YEARS or any_above(gathered, MOST_GATHERED) or any_above(wanted, MOST_WANTED):
        return [NOT_AS_TOLD]
    nursery.gathered = gathered
    nursery.wanted = wanted
    return [len(gathered)]


def answer_follow(nursery, row):
    if len(row) != len(nursery.gathered):
        return [NOT_AS_TOLD]
    stock = stock_at_beginning(nursery)
    done = 0
    for sown in row:
        behind = stock_behind(nursery, stock, done, sown)
        if behind is None:
            break
        stock = behind
        done = done + 1
    return [done] + stock.plants + stock.bags


def any_above(numbers, most):
    return any([number > most for number in numbers])


def stock_at_beginning(nursery):
    return Stock([0, 0, 0], [0] * len(nursery.seedlings))


def stock_behind(nursery, stock, year, sown):
    """The stock when the year is over, or None if the year can't be done."""
    bags = [stock.bags[0] + nursery.gathered[year]] + stock.bags[1:]
    if sown > nursery.beds or sown > sum(bags):
        return None
    plants = plants_unlifted(stock.plants, nursery.wanted[year])
    if plants is None:
        return None
    taken = bags_taken(bags, sown)
    seedlings = sum([taken[age] * nursery.seedlings[age] for age in range(len(taken))])
    unsown = [bags[age] - taken[age] for age in range(len(bags))]
    return stock_after_winter(nursery, seedlings, plants, unsown)


def bags_taken(bags, sown):
    """How many bags of each age are sown, the oldest first."""
    taken = [0] * len(bags)
    missing = sown
    for age in range(len(bags) - 1, -1, -1):
        taken[age] = min(bags[age], missing)
        missing = missing - taken[age]
    return taken


def plants_unlifted(plants, wanted):
    """The plants that stay, those of three years being lifted first, or None if there are too few."""
    lifted_of_three = min(plants[2], wanted)
    lifted_of_two = wanted - lifted_of_three
    if lifted_of_two > plants[1]:
        return None
    return [plants[0], plants[1] - lifted_of_two, plants[2] - lifted_of_three]


def stock_after_winter(nursery, seedlings, plants, bags):
    # What was of three years, and the bags of the last age told, are thrown away: nothing follows from them.
    grown = [
        left_of(seedlings, nursery.losses[0]),
        left_of(plants[0], nursery.losses[1]),
        left_of(plants[1], nursery.losses[2]),
    ]
    return Stock(grown, [0] + bags[:-1])


def left_of(plants, loss):
    # It's the lost ones that are rounded down, so those that are left are not.
    return plants - plants * loss // 100
