"""What the document says of money, worked out in the plainest way, and values for the tests of it.

Fractions are Fraction objects here; pair_of and share_of go from them to tuples and back.
"""

from fractions import Fraction

from tests.brute import endings_of, first_of, inside_of, is_hope_for, pair_of, parts_of, place_of, points_of, two_sides
from tests.samples import (FIRST, even_tree, random_pool, random_question, random_results, random_team,
                           random_tree)

TWO = ((0, 1), (1,), 0, ((0,), (1,)))
TEN = ((10, ("hope", ((0,), ((1,),), 1))),)
OWED = ((-10, ("hope", ((0,), ((1,),), 1))),)
LADDER = ((((3, 5), 4), ((4, 5), 6)), (((1, 2), 100),))
QUOTES = {(0, 1): LADDER}
NO_LADDER = ((), ())
# Three steps each way, with prices of 0 and 1, bottoms of 100, and one price on both sides.
WIDE = ((((41, 100), 5), ((3, 4), 7), ((1, 1), 10000000)), (((41, 100), 1), ((1, 100), 20), ((0, 1), 3)))
HUGE = 10 ** 999
LITTLE = Fraction(1, 10 ** 9)
# For the pool of the examples: the same ladder for all pairs, and a book with a thing of each kind.
FLAT = {(one, other): LADDER for one in range(4) for other in range(4) if one < other}
BOOK = (((6, ("share", 0)), (2, ("place", 2, 2)), (3, ("lead", (0,), (1,)))), ((-5, ("hope", FIRST)),))


def share_of(pair):
    """Return a fraction that is a tuple as a Fraction."""
    return Fraction(*pair)


def is_as_good(ladder, other):
    """Return whether each bet at another ladder can be made at this one, and costs at most as much.

    All corners are integers, so that trying all integers is enough.
    """
    low, high = limits_of(other)
    mine = limits_of(ladder)
    return mine[0] <= low and high <= mine[1] and all(
        cost_of(ladder, Fraction(bet)) <= cost_of(other, Fraction(bet)) for bet in range(low, high + 1))


def paid_by_thing(pool, thing, ending):
    """Return what a thing pays behind an ending."""
    points = points_of(pool, ending)
    if thing[0] == "hope":
        return Fraction(is_hope_for(((pool, thing[1]),), ending))
    if thing[0] == "lead":
        return Fraction(sum(points[one] for one in thing[1]) - sum(points[one] for one in thing[2]))
    if thing[0] == "place":
        return Fraction(place_of(points, thing[1]) == thing[2])
    return Fraction(thing[1] in first_of(points), len(first_of(points)))


def paid_by_book(pool, book, ending):
    """Return what a book pays behind an ending."""
    return sum([amount * paid_by_thing(pool, thing, ending) for contract in book for amount, thing in contract],
               Fraction(0))


def courses_of(pool, results):
    """Return a dict from each course to its two sides, the lesser one first."""
    parts = parts_of(pool[0])
    still = [at for at in range(len(parts)) if at not in results]
    found = {}
    for ending in endings_of(pool, results):
        for many, at in enumerate(still):
            course = tuple([ending[before] for before in still[:many]])
            found[course] = tuple(sorted(two_sides(parts, at, ending)))
    return found


def cost_of(ladder, bet):
    """Return the cost of a bet, a Fraction, ticket by ticket and part by part."""
    total = Fraction(0)
    left = abs(bet)
    for price, tickets in ladder[0] if bet > 0 else ladder[1]:
        taken = min(left, Fraction(tickets))
        total += taken * share_of(price)
        left -= taken
    return total if bet > 0 else -total


def limits_of(ladder):
    """Return the least and the greatest bet."""
    return -sum(tickets for _, tickets in ladder[1]), sum(tickets for _, tickets in ladder[0])


def brought_by(pool, results, quotes, plan, ending):
    """Return what the bets of a plan bring behind an ending; its bets are tuples."""
    still = [at for at in range(len(pool[1])) if at not in results]
    total = Fraction(0)
    row = tuple([ending[at] for at in still])
    for course, sides in courses_of(pool, results).items():
        if row[:len(course)] == course:
            bet = share_of(plan[course])
            total += (bet if row[len(course)] == sides[0] else 0) - cost_of(quotes[sides], bet)
    return total


def missing_by_ending(pool, results, quotes, book, plan):
    """Return a dict from each ending to what the book pays less what the bets of a plan bring."""
    return {ending: paid_by_book(pool, book, ending) - brought_by(pool, results, quotes, plan, ending)
            for ending in endings_of(pool, results)}


def keeps_plan(pool, results, quotes, value):
    """Return whether a value is a plan."""
    sides = courses_of(pool, results)
    if not isinstance(value, dict) or sorted(value) != sorted(sides):
        return False
    for course, bet in value.items():
        if type(course) is not tuple or any(type(side) is not int for side in course):
            return False
        low, high = limits_of(quotes[sides[course]])
        if type(bet) is not tuple or [type(number) for number in bet] != [int, int] or pair_of(share_of(bet)) != bet:
            return False
        if not low <= share_of(bet) <= high:
            return False
    return True


def next_of(pool, results):
    """Return (match, s, t) for the next match, or None."""
    parts = parts_of(pool[0])
    still = [at for at in range(len(parts)) if at not in results]
    if not still:
        return None
    return (still[0], *sorted([number if kind == "side" else results[number] for kind, number in parts[still[0]]]))


def both_worths(pool, results, quotes, book):
    """Return the ladder of the next match, and A and B as point [28] has them."""
    at, low, high = next_of(pool, results)
    worths = [worth_of(pool, {**results, at: side}, quotes, book) for side in (low, high)]
    return quotes[(low, high)], *worths


def exact_of(ladder, one, other):
    """Return the exact bet, as point [28] has it."""
    low, high = limits_of(ladder)
    return max(Fraction(low), min(Fraction(high), one - other))


def worth_of(pool, results, quotes, book):
    """Return the worth, as point [28] has it."""
    if next_of(pool, results) is None:
        return paid_by_book(pool, book, endings_of(pool, results)[0])
    ladder, one, other = both_worths(pool, results, quotes, book)
    bet = exact_of(ladder, one, other)
    return max(one - bet, other) + cost_of(ladder, bet)


def allowance_of(ladder, share):
    """Return the allowance of a chance, a Fraction."""
    total = Fraction(0)
    for price, tickets in ladder[0]:
        total += tickets * max(share - share_of(price), 0)
    for price, tickets in ladder[1]:
        total += tickets * max(share_of(price) - share, 0)
    return total


def sum_of(pool, results, quotes, book, scenario, course=()):
    """Return the sum of a scenario, as point [29] has it."""
    due = next_of(pool, results)
    if due is None:
        return paid_by_book(pool, book, endings_of(pool, results)[0])
    at, low, high = due
    share = share_of(scenario[course])
    sums = [sum_of(pool, {**results, at: side}, quotes, book, scenario, (*course, side)) for side in (low, high)]
    return share * sums[0] + (1 - share) * sums[1] - allowance_of(quotes[(low, high)], share)


def random_share(source, most=100):
    """Return a random Fraction from 0 to 1 with a bottom of at most so much."""
    bottom = source.randint(1, source.choice((1, 2, 10, most)))
    return Fraction(source.randint(0, bottom), bottom)


def random_ladder(source, tickets=20, steps=3):
    """Return a random ladder."""
    shares = sorted({random_share(source) for _ in range(source.randint(0, 2 * steps))})
    cut = source.randint(max(0, len(shares) - steps), min(steps, len(shares)))
    selling = [(pair_of(share), source.randint(1, tickets)) for share in shares[:cut][::-1]]
    buying = [(pair_of(share), source.randint(1, tickets)) for share in shares[cut:]]
    if selling and len(buying) < steps and source.random() < 0.2:
        # The worst seller may ask what the best buyer offers.
        buying = [(selling[0][0], source.randint(1, tickets)), *buying]
    return (tuple(buying), tuple(selling))


def pairs_of(many):
    """Return the pairs of so many sides."""
    return [(one, other) for one in range(many) for other in range(one + 1, many)]


def random_quotes(source, many, tickets=20):
    """Return random quotes for so many sides, put in in random order."""
    pairs = pairs_of(many)
    source.shuffle(pairs)
    return {pair: random_ladder(source, tickets) for pair in pairs}


def random_thing(source, entrants):
    """Return a random thing."""
    return source.choice((("hope", random_question(source, entrants)),
                          ("lead", random_team(source, entrants), random_team(source, entrants)),
                          ("place", source.randrange(entrants), source.randint(1, entrants)),
                          ("share", source.randrange(entrants))))


def random_contract(source, entrants, amount=30, items=3):
    """Return a random contract."""
    return tuple([(source.randint(-amount, amount), random_thing(source, entrants))
                  for _ in range(source.randint(0, items))])


def random_book(source, entrants, contracts=3):
    """Return a random book."""
    return tuple([random_contract(source, entrants) for _ in range(source.randint(0, contracts))])


def random_case(source, sides, tickets=20):
    """Return a random pool with at most so many sides, results, quotes and a book."""
    many = source.randint(2, sides)
    tree = random_tree(source, many)
    pool = random_pool(source, tree, inside_of(tree), source.randint(1, 5), source.choice((1, 3, 20)))
    results = random_results(source, parts_of(tree), source.choice((0, 0, 1, 2, many - 1)))
    return pool, results, random_quotes(source, many, tickets), random_book(source, len(pool[3]))


def full_ladder(at):
    """Return a ladder with three steps each way, other ones for other numbers."""
    buying = tuple([(pair_of(Fraction(50 + at % 7 + 11 * step, 99)), 100 + 37 * step + at) for step in range(3)])
    selling = tuple([(pair_of(Fraction(40 - at % 5 - 13 * step, 97)), 90 + 41 * step + at) for step in range(3)])
    return (buying, selling)


def full_pool(source, many):
    """Return a pool of so many sides with five entrants, quotes with three steps each way, and a full book."""
    tree = even_tree(list(range(many)))
    pool = random_pool(source, tree, inside_of(tree), 5)
    quotes = {pair: full_ladder(at) for at, pair in enumerate(pairs_of(many))}
    book = tuple([tuple([(source.randint(-1000, 1000), random_thing(source, 5)) for _ in range(6)])
                  for _ in range(8)])
    return pool, quotes, book


def large():
    """Return values with some 200,000 items, none of which is of a kind that the library asks about."""
    return [tuple(range(199999)), list(range(199999)), {number: number for number in range(99999)},
            {(number, number + 1): ((), ()) for number in range(40000)}, ((1, ("share", 0)),) * 40000,
            tuple([((1, ("share", 0)),)] * 40000), ((0, 1),) * 60000]
