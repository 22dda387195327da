import unittest
from random import Random

from poolhopes.contracts import is_book, is_contract, next_match, pays
from tests.brute import endings_of, first_of, inside_of, pair_of, parts_of, points_of
from tests.checks import check_all_orders, check_bool
from tests.money import HUGE, OWED, TEN, TWO, full_pool, large, next_of, paid_by_book, random_book, random_contract
from tests.samples import (FIRST, LATE, POOL, deep, junk, random_pool, random_results, random_tree, twists)

MIXED = ((6, ("share", 0)), (2, ("place", 2, 2)), (3, ("lead", (0,), (1,))), (-4, ("hope", FIRST)))


class ContractTest(unittest.TestCase):
    def check_thing(self, good, thing):
        """Check a thing, in a contract by itself and behind another item, and in a book."""
        check_bool(self, good, is_contract, POOL, ((1, thing),))
        check_bool(self, good, is_contract, POOL, (MIXED[0], (-1000, thing)))
        check_bool(self, good, is_book, POOL, (((1, thing),), MIXED))

    def test_examples(self):
        self.assertEqual([is_contract(TWO, TEN), is_contract(TWO, ((10, ("share", 2)),)), is_book(TWO, (TEN, ()))],
                         [True, False, True])
        check_bool(self, True, is_contract, TWO, OWED)
        check_bool(self, True, is_contract, POOL, MIXED)

    def test_amounts(self):
        for amount in (-1000, -999, -1, 0, 1, 999, 1000):
            check_bool(self, True, is_contract, POOL, ((amount, ("share", 0)),))
        for amount in (-1001, 1001, HUGE, -HUGE, True, False, None, "1", (1, 1), [1], (1,)):
            check_bool(self, False, is_contract, POOL, ((amount, ("share", 0)),))
            check_bool(self, False, is_contract, POOL, (MIXED[0], (amount, ("share", 0))))

    def test_numbers_of_items_and_contracts(self):
        for many in range(9):
            check_bool(self, many <= 6, is_contract, POOL, (MIXED[many % 4],) * many)
            check_bool(self, many <= 6, is_book, POOL, ((MIXED[0],) * many,))
        for many in range(11):
            check_bool(self, many <= 8, is_book, POOL, (MIXED,) * many)
            check_bool(self, many <= 8, is_book, POOL, ((),) * many)
        check_bool(self, True, is_book, POOL, ((MIXED[0],) * 6,) * 8)
        check_bool(self, True, is_contract, POOL, ())

    def test_hopes(self):
        for question in (FIRST, ((0, 1, 2), (), 200), ((0,), ((0,),) * 4, -200)):
            self.check_thing(True, ("hope", question))
        for question in (((0,), ((0,),) * 5, 0), ((3,), (), 0), ((1, 0), (), 0), ((), (), 0), (*FIRST[:2], 201),
                         (*FIRST[:2], -201), (*FIRST[:2], False), FIRST[:2], list(FIRST), None, ((True,), (), 0)):
            self.check_thing(False, ("hope", question))
        for value in twists(FIRST):
            self.check_thing(False, ("hope", value))

    def test_leads(self):
        for team, other in (((0,), (1,)), ((0,), (0,)), ((0, 1, 2), (2,)), ((1, 2), (1, 2))):
            self.check_thing(True, ("lead", team, other))
        for team in ((), (3,), (-1,), (1, 0), (0, 0), (False,), (True,), [0], 0, None, (0, 1, 2, 3), ((0,),), ("0",)):
            self.check_thing(False, ("lead", team, (0,)))
            self.check_thing(False, ("lead", (0,), team))

    def test_places_and_shares(self):
        for entrant in (*range(-2, 6), True, False, None, "0", (0,), [0], HUGE):
            good = type(entrant) is int and 0 <= entrant <= 2
            self.check_thing(good, ("share", entrant))
            for place in (*range(-1, 6), True, None, "1", (1,), [1], -HUGE):
                self.check_thing(good and type(place) is int and 1 <= place <= 3, ("place", entrant, place))
        # The number of entrants counts, not that of sides.
        for many in range(1, 6):
            pool = (*TWO[:3], ((0,),) * many)
            for place in range(8):
                check_bool(self, 1 <= place <= many, is_contract, pool, ((1, ("place", 0, place)),))
                check_bool(self, place < many, is_contract, pool, ((1, ("share", place)),))

    def test_things_of_other_forms(self):
        for thing in junk() + [("hope",), ("share",), ("lead", (0,)), ("place", 0), ("hope", FIRST, 0), ("share", 0, 1),
                               ("lead", (0,), (1,), (2,)), ("place", 0, 1, 1), ("Share", 0), ("shares", 0), ("", 0),
                               ["share", 0], (["share"], 0), (0, "share"), {"share": 0}, ("lead", FIRST),
                               ("place", FIRST), ("lead", ((0,), (1,))), (("share",), 0), (None, 0), "share"]:
            self.check_thing(False, thing)

    def test_items_of_other_forms(self):
        item = MIXED[0]
        for value in junk() + [item[:1], (*item, 0), list(item), item[::-1], (item,), [item], (1, "share", 0),
                               {1: ("share", 0)}]:
            check_bool(self, False, is_contract, POOL, (value,))
            check_bool(self, False, is_contract, POOL, (item, value))
            check_bool(self, False, is_book, POOL, ((item,), (value,)))

    def test_other_values(self):
        for value in junk() + large() + twists(MIXED) + [MIXED[0], list(MIXED), dict(enumerate(MIXED)), (MIXED,),
                                                         deep(MIXED, 90, tuple)]:
            check_bool(self, value == (), is_contract, POOL, value)
            check_bool(self, value == (), is_book, POOL, (value, MIXED))
        for value in junk() + large() + twists((MIXED, ())) + [MIXED, [MIXED], {0: MIXED}, ((MIXED,),)]:
            check_bool(self, value in ((), ((),)), is_book, POOL, value)


class PaysTest(unittest.TestCase):
    def check(self, pool, book, ending):
        found = pays(pool, book, ending)
        self.assertEqual(found, pair_of(paid_by_book(pool, book, ending)))
        self.assertEqual([type(found)] + [type(number) for number in found], [tuple, int, int])

    def test_examples(self):
        book = (((6, ("share", 0)), (2, ("place", 2, 2)), (3, ("lead", (0,), (1,)))),)
        self.assertEqual(pays(POOL, book, (0, 1, 0)), (20, 1))

    def test_nothing(self):
        for book in ((), ((),), ((), ()), (((0, ("share", 0)),),)):
            for ending in endings_of(POOL, {}):
                self.assertEqual(pays(POOL, book, ending), (0, 1))

    def test_each_thing_with_equal_points(self):
        pool = ((0, 1), (2,), 0, ((0,), (0,), (1,), (0,), (1,)))
        expected = {
            ("share", 0): ((1, 3), (0, 1)), ("share", 2): ((0, 1), (1, 2)), ("place", 3, 1): ((1, 1), (0, 1)),
            ("place", 3, 2): ((0, 1), (0, 1)), ("place", 3, 3): ((0, 1), (1, 1)), ("place", 4, 4): ((1, 1), (0, 1)),
            ("place", 4, 5): ((0, 1), (0, 1)), ("lead", (0, 1), (0, 2)): ((2, 1), (-2, 1)),
            ("lead", (0,), (0,)): ((0, 1), (0, 1)), ("hope", ((0,), ((1,), (3,)), 0)): ((1, 1), (1, 1)),
            ("hope", ((0,), ((2,),), 1)): ((1, 1), (0, 1)), ("hope", ((0,), (), 200)): ((1, 1), (1, 1))}
        for thing, both in expected.items():
            for ending, paid in zip(((0,), (1,)), both):
                self.assertEqual(pays(pool, (((1, thing),),), ending), paid, thing)
                self.assertEqual(pays(pool, (((-6, thing), (3, thing)), ((2, thing),)), ending), (-paid[0], paid[1]))

    def test_shares_by_the_number_of_first_ones(self):
        for many in range(1, 6):
            pool = (*TWO[:3], ((0,),) * many + ((1,),) * (5 - many))
            self.assertEqual(first_of(points_of(pool, (0,))), tuple(range(many)))
            self.assertEqual(pays(pool, (((1000, ("share", 0)),),), (0,)), pair_of(paid_by_book(
                pool, (((1000, ("share", 0)),),), (0,))))
            self.assertEqual(pays(pool, (((many, ("share", 0)), (-7, ("share", 4))),), (0,)),
                             (1, 1) if many < 5 else (-2, 5))

    def test_random_books(self):
        source = Random(90)
        for _ in range(150):
            tree = random_tree(source, source.randint(2, 6))
            pool = random_pool(source, tree, inside_of(tree), source.randint(1, 5), source.choice((1, 3, 20)))
            endings = endings_of(pool, {})
            for _ in range(6):
                self.check(pool, random_book(source, len(pool[3]), 8), source.choice(endings))

    def test_nine_contracts_and_seven_items(self):
        source = Random(91)
        book = tuple([random_contract(source, 3, 2000, 9) for _ in range(10)])
        self.check(POOL, book, (3, 1, 1))

    def test_sixteen_sides(self):
        source = Random(92)
        pool, _, book = full_pool(source, 16)
        for _ in range(10):
            results = random_results(source, parts_of(pool[0]), 15)
            self.check(pool, book, tuple([results[at] for at in range(15)]))


class NextMatchTest(unittest.TestCase):
    def test_examples(self):
        self.assertEqual([next_match(POOL, {1: 2}), next_match(POOL, {0: 3, 1: 1}), next_match(TWO, {0: 1})],
                         [(0, 0, 3), (2, 1, 3), None])

    def test_gaps(self):
        self.assertEqual(next_match(POOL, {}), (0, 0, 3))
        self.assertEqual(next_match(POOL, {0: 0}), (1, 1, 2))
        self.assertEqual(next_match(POOL, {0: 0, 1: 2}), (2, 0, 2))
        self.assertIsNone(next_match(POOL, {0: 0, 1: 2, 2: 2}))
        # The first side of a match may be the greater one.
        self.assertEqual(next_match(LATE, {0: 3, 1: 1}), (2, 1, 3))
        self.assertEqual(next_match(LATE, {0: 3, 1: 1, 2: 3}), (3, 3, 4))
        self.assertEqual(next_match(LATE, {1: 1}), (0, 0, 3))

    def test_random_results(self):
        source = Random(93)
        for _ in range(150):
            tree = random_tree(source, source.randint(2, 16))
            pool = random_pool(source, tree, inside_of(tree), 2)
            parts = parts_of(tree)
            results = random_results(source, parts, source.randint(0, len(parts)))
            found = next_match(pool, results)
            self.assertEqual(found, next_of(pool, results))
            if found is not None:
                self.assertEqual([type(found)] + [type(number) for number in found], [tuple, int, int, int])
            check_all_orders(self, lambda some: next_match(pool, some), results)


if __name__ == "__main__":
    unittest.main()
