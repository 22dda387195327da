import unittest
from copy import deepcopy
from itertools import product
from random import Random

from poolhopes.errors import TooMany
from poolhopes.hopes import find_hope
from poolhopes.joint import find_joint_cover, find_joint_hope, is_joint, is_joint_cover, is_joint_hope
from tests.brute import (endings_of, inside_of, is_hope_for, keeps_cover, leads_of, maximal_of, maximal_table, parts_of)
from tests.checks import check_all_orders, check_bool, check_new
from tests.samples import (BOTH, CHAIN_300, CHAIN_301, EVEN_300, FIRST, FOUR_RIVALS, JOINT_300, JOINT_301, LATE, OTHER,
                           POOL, deep, junk, random_pool, random_question, random_results, random_tree, twists)

SECOND = ((0,), ((1,),), 1)


def random_joint(source, tree, many):
    """Return a random joint question of so many questions."""
    found = []
    for _ in range(many):
        pool = random_pool(source, tree, inside_of(tree), source.randint(1, 4), source.choice((2, 6, 20)))
        found.append((pool, random_question(source, len(pool[3]), 3)))
    return tuple(found)


class IsJointTest(unittest.TestCase):
    def test_examples(self):
        check_bool(self, True, is_joint, BOTH)
        check_bool(self, False, is_joint, ((POOL, FIRST), (OTHER, FIRST)))

    def test_one_to_three_questions(self):
        pairs = ((POOL, FIRST), (OTHER, SECOND))
        for many in range(6):
            check_bool(self, 1 <= many <= 3, is_joint, pairs[:1] * many)
            check_bool(self, 1 <= many <= 3, is_joint, tuple([pairs[at % 2] for at in range(many)]))

    def test_equal_trees(self):
        for tree, good in ((((0, 3), (1, 2)), True), (((1, 2), (0, 3)), False), (((3, 0), (1, 2)), False),
                           (((0, 2), (1, 3)), False), ((0, (3, (1, 2))), False)):
            inside = inside_of(tree)
            other = (tree, (1, 1, 1), 0, (tuple([sides[0] for sides in inside]),) * 2)
            check_bool(self, True, is_joint, ((other, SECOND),))
            check_bool(self, good, is_joint, ((POOL, FIRST), (other, SECOND)))
            check_bool(self, good, is_joint, ((other, SECOND), (POOL, FIRST)))
            check_bool(self, good, is_joint, ((POOL, FIRST), (OTHER, SECOND), (other, SECOND)))
        check_bool(self, False, is_joint, ((POOL, FIRST), (LATE, FIRST)))
        check_bool(self, False, is_joint, ((((0, 1), (1,), 0, ((0,), (1,))), SECOND), (OTHER, SECOND)))

    def test_each_question_is_about_its_pool(self):
        third = ((2,), (), 0)
        check_bool(self, True, is_joint, ((POOL, third), (OTHER, SECOND)))
        check_bool(self, False, is_joint, ((POOL, FIRST), (OTHER, third)))
        check_bool(self, False, is_joint, ((OTHER, third), (POOL, FIRST)))
        for question in (((0,), ((1,),), 201), ((0,), ((2,),), 0), ((0,), ((1,),) * 5, 0), ((1, 0), (), 0), SECOND[:2]):
            check_bool(self, False, is_joint, ((OTHER, question),))
            check_bool(self, False, is_joint, ((POOL, FIRST), (OTHER, question)))
            check_bool(self, False, is_joint, ((OTHER, SECOND), (OTHER, SECOND), (OTHER, question)))

    def test_each_pool_is_a_pool(self):
        for pool in ((POOL[0], (1, 1), 1, POOL[3]), (*POOL[:2], 10, POOL[3]), POOL[:3], list(POOL), None, POOL[0]):
            check_bool(self, False, is_joint, ((pool, SECOND),))
            check_bool(self, False, is_joint, ((POOL, FIRST), (pool, SECOND)))

    def test_other_forms(self):
        for value in ((), (POOL, FIRST), [(POOL, FIRST)], ([POOL, FIRST],), ((POOL, FIRST, 0),), ((POOL,),), (POOL,),
                      ((FIRST, POOL),), {0: (POOL, FIRST)}, ((POOL, FIRST), ()), ((POOL, FIRST), None), (BOTH,), None):
            check_bool(self, False, is_joint, value)
        for value in junk() + twists(BOTH):
            check_bool(self, False, is_joint, value)
        for value in junk():
            check_bool(self, False, is_joint, (value,))
            check_bool(self, False, is_joint, ((POOL, value),))
            check_bool(self, False, is_joint, ((value, FIRST),))
            check_bool(self, False, is_joint, (*BOTH, value))
        check_bool(self, False, is_joint, deep(BOTH, 80, tuple))
        check_bool(self, False, is_joint, deep((POOL, FIRST), 80, list))


class IsJointHopeTest(unittest.TestCase):
    def test_examples(self):
        check_bool(self, True, is_joint_hope, BOTH, {}, (3, 1, 1))
        check_bool(self, False, is_joint_hope, BOTH, {}, (3, 2, 2))

    def test_a_hope_for_each_question(self):
        for joint in (BOTH, BOTH[::-1], BOTH[:1], BOTH[1:], (*BOTH, (OTHER, ((1,), ((0,),), -3)))):
            for results in ({}, {0: 3}, {1: 2}, {1: 1, 0: 3, 2: 1}):
                endings = endings_of(POOL, results)
                for value in product(range(4), repeat=3):
                    good = value in endings and is_hope_for(joint, value)
                    check_bool(self, good, is_joint_hope, joint, results, value)

    def test_only_endings(self):
        joint = ((POOL, ((0,), (), 0)), (OTHER, ((1,), (), 0)))
        check_bool(self, True, is_joint_hope, joint, {}, (0, 1, 1))
        check_bool(self, False, is_joint_hope, joint, {0: 3}, (0, 1, 1))
        for value in junk() + twists((0, 1, 1)) + [[0, 1, 1], (0, 1, 2), (0, 1), (0, 1, 1, 1), (0, True, 1)]:
            check_bool(self, False, is_joint_hope, joint, {}, value)
            check_bool(self, False, is_joint_hope, BOTH, {0: 0}, value)
        check_bool(self, False, is_joint_hope, joint, {}, deep((0, 1, 1), 90, list))

    def test_random_joints(self):
        source = Random(17)
        for many in range(2, 7):
            for questions in (1, 2, 3):
                for _ in range(6):
                    tree = random_tree(source, many)
                    joint = random_joint(source, tree, questions)
                    results = random_results(source, parts_of(tree), source.randint(0, 2))
                    endings = endings_of(joint[0][0], results)
                    for ending in endings_of(joint[0][0], {}):
                        good = ending in endings and is_hope_for(joint, ending)
                        check_bool(self, good, is_joint_hope, joint, results, ending)


class FindJointTest(unittest.TestCase):
    def check(self, joint, results):
        hopes = [ending for ending in endings_of(joint[0][0], results) if is_hope_for(joint, ending)]
        hope, cover = find_joint_hope(joint, results), find_joint_cover(joint, results)
        if hopes:
            self.assertIn(hope, hopes)
            self.assertIs(type(hope), tuple)
            self.assertIsNone(cover)
            check_bool(self, True, is_joint_hope, joint, results, hope)
        else:
            self.assertIsNone(hope)
            self.assertTrue(keeps_cover(joint, results, cover))
            check_bool(self, True, is_joint_cover, joint, results, cover)
            for row in cover:
                for leads in row.values():
                    self.assertLessEqual(max([abs(number) for lead in leads for number in lead]), 10 ** 30)
        self.assertEqual(find_joint_hope(joint, results), hope)
        self.assertEqual(find_joint_cover(joint, results), cover)
        return bool(hopes)

    def test_examples(self):
        self.assertEqual(find_joint_hope(BOTH, {0: 3, 1: 1, 2: 1}), (3, 1, 1))
        self.assertIsNone(find_joint_hope(BOTH, {1: 2}))
        self.assertIs(is_joint_cover(BOTH, {1: 2}, find_joint_cover(BOTH, {1: 2})), True)
        self.assertTrue(self.check(BOTH, {}))
        self.assertFalse(self.check(BOTH, {1: 2}))

    def test_hopes_one_by_one_are_not_enough(self):
        against = ((POOL, ((0,), ((1,),), 1)), (POOL, ((1,), ((0,),), 1)))
        for pair in against:
            self.assertTrue(self.check((pair,), {}))
        self.assertFalse(self.check(against, {}))
        self.assertFalse(self.check(against[::-1], {}))
        self.assertFalse(self.check((*against, (OTHER, ((1,), (), 5))), {}))

    def test_no_rivals(self):
        joint = ((POOL, ((1,), (), 200)), (OTHER, ((0,), (), 1)))
        self.assertTrue(self.check(joint, {}))
        self.assertTrue(self.check(joint, {0: 0, 1: 1, 2: 1}))
        self.assertFalse(self.check((*joint, (OTHER, ((0,), ((1,),), 200))), {0: 3}))
        self.assertFalse(self.check(((OTHER, ((0,), ((1,),), 200)), *joint), {0: 3}))

    def test_each_question_has_its_own_margin(self):
        pair, same = ((0,), ((1,),), 4), ((0,), ((0,),), 0)
        self.assertTrue(self.check(((POOL, pair), (POOL, same)), {}))
        self.assertTrue(self.check(((POOL, same), (POOL, pair)), {}))
        self.assertFalse(self.check(((POOL, same), (POOL, (*pair[:2], 5))), {}))
        self.assertFalse(self.check(((POOL, (*same[:2], 1)), (POOL, (*pair[:2], -9))), {}))
        self.assertFalse(self.check(((POOL, (*pair[:2], -9)), (POOL, (*same[:2], 1))), {}))

    def test_one_question_is_as_alone(self):
        for results in ({}, {0: 0}, {0: 3}, {1: 1}):
            alone = find_hope(POOL, results, FIRST)
            self.assertEqual(self.check(((POOL, FIRST),), results), alone is not None)

    def test_random_joints(self):
        source = Random(18)
        kinds = {True: 0, False: 0}
        for many in range(2, 8):
            for questions in (1, 2, 3):
                for _ in range(15):
                    tree = random_tree(source, many)
                    results = random_results(source, parts_of(tree), source.choice((0, 0, 1, many - 1)))
                    kinds[self.check(random_joint(source, tree, questions), results)] += 1
        self.assertGreater(min(kinds.values()), 50)

    def test_sizes_up_to_16(self):
        source = Random(19)
        for many in range(8, 17):
            tree = random_tree(source, many)
            for margin in (-30, 0, 10, 30):
                joint = tuple([(random_pool(source, tree, inside_of(tree), 3), ((0,), ((1,), (2,)), margin)),
                               (random_pool(source, tree, inside_of(tree), 2), ((0,), ((1,),), margin))])
                hope, cover = find_joint_hope(joint, {}), find_joint_cover(joint, {})
                self.assertIs(hope is None, cover is not None)
                if hope is None:
                    check_bool(self, True, is_joint_cover, joint, {}, cover)
                else:
                    self.assertTrue(is_hope_for(joint, hope))

    def test_new_lists_and_orders_of_keys(self):
        check_new(self, find_joint_cover, BOTH, {1: 2})
        check_new(self, find_joint_cover, BOTH, {1: 2, 0: 0})
        check_new(self, find_joint_hope, BOTH, {1: 1, 0: 3})
        for margin in (-9, 9):
            joint = ((LATE, ((0,), ((1,), (2,)), margin)), (LATE, ((3,), ((1,),), margin)))
            check_all_orders(self, lambda results: find_joint_hope(joint, results), {0: 0, 1: 2, 2: 0})
            check_all_orders(self, lambda results: find_joint_cover(joint, results), {0: 0, 1: 2, 2: 0})

    def test_too_many(self):
        for call in (find_joint_hope, find_joint_cover):
            for joint in (JOINT_301, JOINT_301[::-1], (*JOINT_301, JOINT_300[0]), ((CHAIN_301, FOUR_RIVALS),)):
                for margin in (-200, 0, 200):
                    asked = tuple([(pool, (*question[:2], margin)) for pool, question in joint])
                    with self.assertRaises(TooMany) as caught:
                        call(asked, {})
                    self.assertEqual(caught.exception.limit, 300)
            call(JOINT_300, {})
            call(JOINT_300[::-1], {})
            call(JOINT_301[:1], {})
            call(JOINT_301[1:], {})
            call(JOINT_301, {0: 5, 1: 2})
            call(((EVEN_300, FOUR_RIVALS),), {})
            call(((CHAIN_300, FOUR_RIVALS), (CHAIN_300, FOUR_RIVALS), (CHAIN_300, ((0,), (), 0))), {})

    def test_300_and_301(self):
        for joint, many in ((JOINT_300, 300), (JOINT_301, 301)):
            sizes = [len(maximal_of(leads)) for row in leads_of(joint, {}) for leads in row.values()]
            self.assertEqual(max(sizes), many)


class IsJointCoverTest(unittest.TestCase):
    def test_good_and_bad_leads_of_the_final(self):
        # Two integers of the first question with margin 0, one of the second one with margin 1.
        cover = maximal_table(BOTH, {1: 2})
        check_bool(self, True, is_joint_cover, BOTH, {1: 2}, cover)
        for lead, good in (((-1, 50, 50), True), ((50, -1, 50), True), ((50, 50, 0), True), ((50, 50, 1), False),
                           ((0, 0, 1), False), ((0, 0, 0), True), ((50, 50, 50), False), ((-1, -1, -1), True)):
            value = deepcopy(cover)
            for side in value[2]:
                value[2][side].append(lead)
            check_bool(self, good, is_joint_cover, BOTH, {1: 2}, value)
        check_bool(self, False, is_joint_cover, BOTH, {}, cover)
        check_bool(self, False, is_joint_cover, BOTH, {1: 1}, cover)
        check_bool(self, False, is_joint_cover, BOTH[:1], {1: 2}, cover)
        check_bool(self, False, is_joint_cover, BOTH[::-1], {1: 2}, cover)

    def test_other_forms(self):
        cover = maximal_table(BOTH, {1: 2})
        check_bool(self, False, is_joint_cover, BOTH, {1: 2}, tuple(cover))
        for value in junk() + twists(cover) + [cover[:2], cover[1:], [*cover, {}], [cover], cover[::-1]]:
            check_bool(self, False, is_joint_cover, BOTH, {1: 2}, value)
        for at, row in enumerate(cover):
            for side in row:
                for leads in ([], (), None, [()], [(0, 0)], [(0, 0, 0, 0)], [[0, 0, 0]], [(0, 0, False)],
                              [row[side][0][:2]], [*row[side], (0, 0)], tuple(row[side]), row[side][0], {0: row[side]}):
                    value = deepcopy(cover)
                    value[at][side] = leads
                    check_bool(self, False, is_joint_cover, BOTH, {1: 2}, value)
                value = deepcopy(cover)
                del value[at][side]
                check_bool(self, False, is_joint_cover, BOTH, {1: 2}, value)
                for key in (4, -1, None, "0", (), (0,)):
                    value = deepcopy(cover)
                    value[at][key] = [(-9, -9, -9)]
                    check_bool(self, False, is_joint_cover, BOTH, {1: 2}, value)
        check_bool(self, False, is_joint_cover, BOTH, {1: 2}, deep(cover, 90, list))

    def test_random_changes(self):
        source = Random(20)
        kinds = {True: 0, False: 0}
        for many in range(2, 6):
            for questions in (1, 2, 3):
                for _ in range(25):
                    tree = random_tree(source, many)
                    joint = (*random_joint(source, tree, questions - 1),
                             (random_pool(source, tree, inside_of(tree), 3, 4), ((0,), ((1,), (2,)), 2)))
                    results = random_results(source, parts_of(tree), source.choice((0, 0, 1, many - 1)))
                    value = maximal_table(joint, results)
                    for _ in range(4):
                        good = keeps_cover(joint, results, value)
                        check_bool(self, good, is_joint_cover, joint, results, value)
                        kinds[good] += 1
                        at = source.randrange(len(value))
                        side = source.choice(sorted(value[at]))
                        lead = list(source.choice(value[at][side]))
                        lead[source.randrange(len(lead))] += source.choice((-1, 1, 1, 2))
                        if source.random() < 0.5:
                            value[at][side][source.randrange(len(value[at][side]))] = tuple(lead)
                        else:
                            value[at][side].append(tuple(lead))
        self.assertGreater(min(kinds.values()), 100)

    def test_more_than_300_leads(self):
        value = maximal_table(JOINT_301, {})
        longest = max(value[-1].values(), key=len)
        self.assertEqual(len(longest), 301)
        joint = tuple([(pool, (*question[:2], 200)) for pool, question in JOINT_301])
        check_bool(self, True, is_joint_cover, joint, {}, value)
        low = tuple([(pool, (*question[:2], -200)) for pool, question in JOINT_301])
        check_bool(self, False, is_joint_cover, low, {}, value)
        lead = longest.pop()
        check_bool(self, False, is_joint_cover, joint, {}, value)
        longest.append(lead)
        check_bool(self, True, is_joint_cover, joint, {}, value)


if __name__ == "__main__":
    unittest.main()
