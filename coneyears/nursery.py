"""A nursery's calls: what it is told, what a row of sowings comes to, year by year, and which row is best."""

MOST_BEDS = 4
MOST_LOSS = 100
MOST_AGES = 4
MOST_SEEDLINGS = 1000
MOST_YEARS = 6
MOST_GATHERED = 8
MOST_WANTED = 100000
MOST_WANTED_MORE = 100000

YEARS_TILL_LIFTED = 2

BEGINS = 0
YEARS = 1
FOLLOW = 2
LIFT = 3
BEST = 4
MORE = 5

NOT_AS_TOLD = -1
NO_SUCH_YEAR = -2
NO_ROW_WOULD_DO = -3
NO_ROW_DOES = -6


class UnknownCall(Exception):
    """A call's number is none that the nursery answers."""


class Nursery:
    """What is told of a nursery and of its years."""

    def __init__(self):
        self.beds = 1
        self.losses = [0, 0, 0]
        self.seedlings = [1]
        self.gathered = []
        self.wanted = []


class Stock:
    """What there is between two years: plants of one, two, three years, and bags by age."""

    def __init__(self, plants, bags):
        self.plants = plants
        self.bags = bags


class Sowings:
    """The sowings of the first years, and the stock behind them."""

    def __init__(self, row, stock):
        self.row = row
        self.stock = stock


def answers(calls):
    """For each call in order: how many numbers are answered, then these."""
    nursery = Nursery()
    answered = []
    place = 0
    while place < len(calls):
        start = place + 2
        end = start + calls[place + 1]
        answer = answer_call(nursery, calls[place], calls[start:end])
        answered.append(len(answer))
        answered.extend(answer)
        # One number more stands at a call's end: how many lists it has, and no call has any.
        place = end + 1
    return answered


def answer_call(nursery, call, numbers):
    if call == BEGINS:
        return answer_begins(nursery, numbers)
    if call == YEARS:
        return answer_years(nursery, numbers)
    if call == FOLLOW:
        return answer_follow(nursery, numbers)
    if call == LIFT:
        return answer_lift(nursery, numbers)
    if call == BEST:
        return answer_best(nursery)
    if call == MORE:
        return answer_more(nursery, numbers[0], numbers[1])
    raise UnknownCall(f"no call has the number {call}")


def answer_begins(nursery, numbers):
    beds = numbers[0]
    losses = numbers[1:4]
    seedlings = numbers[4:]
    if beds > MOST_BEDS or any_above(losses, MOST_LOSS):
        return [NOT_AS_TOLD]
    if len(seedlings) < 1 or len(seedlings) > MOST_AGES or any_above(seedlings, MOST_SEEDLINGS):
        return [NOT_AS_TOLD]
    nursery.beds = beds
    nursery.losses = losses
    nursery.seedlings = seedlings
    nursery.gathered = []
    nursery.wanted = []
    return [len(seedlings)]


def answer_years(nursery, numbers):
    gathered = numbers[0::2]
    wanted = numbers[1::2]
    if len(gathered) > MOST_YEARS or any_above(gathered, MOST_GATHERED) or any_above(wanted, MOST_WANTED):
        return [NOT_AS_TOLD]
    nursery.gathered = gathered
    nursery.wanted = wanted
    return [len(gathered)]


def answer_follow(nursery, row):
    if len(row) != len(nursery.gathered):
        return [NOT_AS_TOLD]
    stock = stock_at_beginning(nursery)
    done = 0
    for sown in row:
        behind = stock_behind_three_first(nursery, stock, done, sown)
        if behind is None:
            break
        stock = behind
        done = done + 1
    return [done] + stock.plants + stock.bags


def answer_lift(nursery, numbers):
    row = numbers[0::2]
    lifted_of_two = numbers[1::2]
    if len(row) != len(nursery.gathered):
        return [NOT_AS_TOLD]
    stock = stock_at_beginning(nursery)
    for year in range(len(row)):
        stock = stock_behind(nursery, stock, year, row[year], lifted_of_two[year])
        if stock is None:
            return [year]
    return [len(row)]


def answer_best(nursery):
    rows = best_rows(nursery)
    if len(rows) == 0:
        return [NO_ROW_DOES]
    return [sum(rows[0]), len(rows)] + rows[0]


def answer_more(nursery, year, more):
    if year >= len(nursery.wanted):
        return [NO_SUCH_YEAR]
    if more > MOST_WANTED_MORE:
        return [NOT_AS_TOLD]
    now = best_rows(nursery)
    if len(now) == 0:
        return [NO_ROW_DOES]
    then = best_rows(nursery_with_more_wanted(nursery, year, more))
    if len(then) == 0:
        return [NO_ROW_WOULD_DO]
    return [sum(then[0]) - sum(now[0]), len(then)] + then[0]


def nursery_with_more_wanted(nursery, year, more):
    other = Nursery()
    other.beds = nursery.beds
    other.losses = nursery.losses
    other.seedlings = nursery.seedlings
    other.gathered = nursery.gathered
    other.wanted = list(nursery.wanted)
    other.wanted[year] = nursery.wanted[year] + more
    return other


def any_above(numbers, most):
    return any([number > most for number in numbers])


def best_rows(nursery):
    """Those that do with the fewest bags, the earliest first; none if no row does."""
    rows = rows_that_do(nursery)
    fewest = min([sum(row) for row in rows], default=0)
    return [row for row in rows if sum(row) == fewest]


def rows_that_do(nursery):
    """The rows that do, the earliest first, but for those that sow what can't be lifted any more."""
    begun = [Sowings([], stock_at_beginning(nursery))]
    for year in range(len(nursery.gathered)):
        begun = sowings_a_year_longer(nursery, begun, year)
    return [sowings.row for sowings in begun]


def sowings_a_year_longer(nursery, begun, year):
    most = most_of_use(nursery, year)
    longer = []
    for sowings in begun:
        for sown in range(most + 1):
            stock = stock_behind_three_first(nursery, sowings.stock, year, sown)
            if stock is not None:
                longer.append(Sowings(sowings.row + [sown], stock))
    return longer


def most_of_use(nursery, year):
    # What is sown in the last two years is never lifted: a row without it does too, and has fewer bags, so that
    # none of the best rows is passed over, and far fewer rows are gone through.
    if year + YEARS_TILL_LIFTED >= len(nursery.gathered):
        return 0
    return nursery.beds


def stock_at_beginning(nursery):
    return Stock([0, 0, 0], [0] * len(nursery.seedlings))


def stock_behind_three_first(nursery, stock, year, sown):
    lifted_of_two = max(nursery.wanted[year] - stock.plants[2], 0)
    return stock_behind(nursery, stock, year, sown, lifted_of_two)


def stock_behind(nursery, stock, year, sown, lifted_of_two):
    """The stock when the year is over, or None if the year can't be done so."""
    bags = [stock.bags[0] + nursery.gathered[year]] + stock.bags[1:]
    if sown > nursery.beds or sown > sum(bags):
        return None
    plants = plants_unlifted(stock.plants, nursery.wanted[year], lifted_of_two)
    if plants is None:
        return None
    taken = bags_taken(bags, sown)
    seedlings = sum([taken[age] * nursery.seedlings[age] for age in range(len(taken))])
    unsown = [bags[age] - taken[age] for age in range(len(bags))]
    return stock_after_winter(nursery, seedlings, plants, unsown)


def bags_taken(bags, sown):
    """How many bags of each age are sown, the oldest first."""
    taken = [0] * len(bags)
    missing = sown
    for age in range(len(bags) - 1, -1, -1):
        taken[age] = min(bags[age], missing)
        missing = missing - taken[age]
    return taken


def plants_unlifted(plants, wanted, lifted_of_two):
    """The plants that stay, or None if those that are wanted can't be lifted so."""
    if lifted_of_two > wanted or lifted_of_two > plants[1]:
        return None
    lifted_of_three = wanted - lifted_of_two
    if lifted_of_three > plants[2]:
        return None
    return [plants[0], plants[1] - lifted_of_two, plants[2] - lifted_of_three]


def stock_after_winter(nursery, seedlings, plants, bags):
    # What was of three years, and the bags of the last age told, are thrown away: nothing follows from them.
    grown = [
        left_of(seedlings, nursery.losses[0]),
        left_of(plants[0], nursery.losses[1]),
        left_of(plants[1], nursery.losses[2]),
    ]
    return Stock(grown, [0] + bags[:-1])


def left_of(plants, loss):
    # It's the lost ones that are rounded down, so those that are left are not.
    return plants - plants * loss // 100
