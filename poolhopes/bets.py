"""Bets on the next match."""

from poolhopes.fractions import difference_of, fraction_of, is_not_more, product_of, total_of
from poolhopes.outlooks import need_of, outlook_within
from poolhopes.quotes import bet_limits, cost


def next_bet(pool, results, quotes, book):
    """Return the exact bet on the next match, or None if no match is open."""
    plan, _ = outlook_within(pool, results, quotes, book).exact_plan()
    return plan.get(())


def next_stakes(pool, results, quotes, book):
    """Return the ladder of the next match, and the worths behind a win of s and of t."""
    outlook = outlook_within(pool, results, quotes, book)
    _, worths = outlook.exact_plan()
    one, other = outlook.both(worths, ())
    return (outlook.ladders[()], one, other)


def need_with(pool, results, quotes, book, bet):
    """Return what a bet on the next match needs."""
    ladder, one, other = next_stakes(pool, results, quotes, book)
    return need_of(ladder, one, other, bet)


def safe_bets(pool, results, quotes, book, money):
    """Return the least and the greatest bet on the next match that need at most some money, or None."""
    ladder, one, other = next_stakes(pool, results, quotes, book)
    # A win of t leaves the money less the cost of the bet, a win of s that less the cost of the same bet on t.
    greatest = greatest_for(ladder, difference_of(money, other))
    against = greatest_for(turned_about(ladder), difference_of(money, one))
    if greatest is None or against is None:
        return None
    least = (-against[0], against[1])
    return (least, greatest) if is_not_more(least, greatest) else None


def turned_about(ladder):
    """Return the ladder at which each bet on t is the same as the bet the other way on s at this one."""
    buying, selling = ladder
    return (turned_steps(selling), turned_steps(buying))


def turned_steps(steps):
    """Return the steps for tickets that pay just if those of these steps do not."""
    return tuple([((bottom - top, bottom), tickets) for (top, bottom), tickets in steps])


def greatest_for(ladder, money):
    """Return the greatest bet that costs at most some money, or None if each one costs more."""
    low, _ = bet_limits(ladder)
    bet = (low, 1)
    left = difference_of(money, cost(ladder, bet))
    if left[0] < 0:
        return None
    buying, selling = ladder
    for price, tickets in (*selling[::-1], *buying):
        whole = product_of(price, (tickets, 1))
        if not is_not_more(whole, left):
            return total_of([bet, fraction_of(left[0] * price[1], left[1] * price[0])])
        bet = total_of([bet, (tickets, 1)])
        left = difference_of(left, whole)
    return bet
