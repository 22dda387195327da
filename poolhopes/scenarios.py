"""Scenarios: chances that show how much money a book needs."""

from poolhopes.chances import is_chance
from poolhopes.fractions import difference_of, fraction_of, is_not_more, product_of, rough_sum, total_of
from poolhopes.outlooks import outlook_within


def allowance(ladder, chance):
    """Return the allowance of a chance."""
    buying, selling = ladder
    bought = [gain_of(chance, price, tickets) for price, tickets in buying if not is_not_more(chance, price)]
    sold = [gain_of(price, chance, tickets) for price, tickets in selling if not is_not_more(price, chance)]
    return total_of(bought + sold)


def gain_of(value, price, tickets):
    """Return what tickets bring that are worth more than they are bought for."""
    return product_of(difference_of(value, price), (tickets, 1))


def scenario_sum(pool, results, quotes, book, scenario):
    """Return the sum of a scenario."""
    top, bottom = rough_total(outlook_within(pool, results, quotes, book), scenario)
    return fraction_of(top, bottom)


def rough_total(outlook, scenario):
    """Return the sum of a scenario, as a rough fraction."""
    sums = {row: outlook.paid[row] for row in outlook.paid}
    for course in outlook.last_first():
        chance = scenario[course]
        one, other = outlook.both(sums, course)
        taken, parts = allowance(outlook.ladders[course], chance)
        sums[course] = rough_sum(expected(chance, one, other), (-taken, parts))
    return sums[()]


def expected(chance, one, other):
    """Return, as a rough fraction, what one of two fractions is expected to be, with a chance of the first one."""
    top, bottom = chance
    whole, shared = rough_sum((top * one[0], one[1]), ((bottom - top) * other[0], other[1]))
    return (whole, shared * bottom)


def find_scenario(pool, results, quotes, book):
    """Return a scenario whose sum is the worth."""
    outlook = outlook_within(pool, results, quotes, book)
    _, worths = outlook.exact_plan()
    return scenario_with(outlook, worths)


def scenario_with(outlook, worths):
    """Return a scenario whose sum is the worth, by the worths behind all rows."""
    found = {}
    for course, ladder in outlook.ladders.items():
        one, other = outlook.both(worths, course)
        found[course] = chance_for(ladder, difference_of(one, other))
    return found


def chance_for(ladder, wanted):
    """Return a chance with which the exact bet is expected to bring as much as any, if so many tickets are wanted."""
    buying, selling = ladder
    top, bottom = wanted
    if top > 0:
        return price_at(buying, top, bottom, (1, 1))
    return price_at(selling, -top, bottom, (0, 1))


def price_at(steps, top, bottom, beyond):
    """Return the price of the step with the last one of so many tickets, or what is told if there are too few.

    The tickets are top in parts of the bottom; for none it is the first step.
    """
    taken = 0
    for price, tickets in steps:
        taken += tickets
        if top <= taken * bottom:
            return price
    return beyond


def shows_more(pool, results, quotes, book, value, money):
    """Return whether any value is a scenario that shows that more than some money is needed."""
    outlook = outlook_within(pool, results, quotes, book)
    return is_scenario(outlook, value) and not is_not_more(rough_total(outlook, value), money)


def is_scenario(outlook, value):
    """Return whether any value is a scenario."""
    return outlook.has_just_courses(value) and all([is_chance(chance) for chance in value.values()])
