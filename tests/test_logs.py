import unittest
from copy import deepcopy
from random import Random

from poolhopes.desk import Desk
from poolhopes.logs import is_log, log, replayed
from tests.brute import best_margin, counts_of, hopes_of, inside_of, keeps_cover, known_sides, parts_of
from tests.checks import check_bool, check_new, holders
from tests.samples import (CHAIN_300, CHAIN_301, EVEN_300, FIRST, FOUR_RIVALS, LATE, POOL, deep, junk, random_pool,
                           random_question, random_results, random_tree, twists)
from tests.test_desk import ALWAYS, NEVER, desk_with

COVER = [{0: [(-1, -1)]}, {1: [(2, 0)], 2: [(2, 0)]}, {0: [(0, -1)], 1: [(9, -1)], 2: [(4, -1)]}]
NAMED = (("result", 0, 0), None)
CLAIMED = (("claim", FIRST), COVER)
NEVER_COVER = [{0: [(0,)], 3: [(0,)]}, {1: [(0,)], 2: [(0,)]}, {0: [(0,)], 1: [(0,)], 2: [(0,)], 3: [(0,)]}]


def random_desk(source, pool, steps):
    """Return a desk at which random events were made, and the events."""
    desk, events = Desk(pool), []
    for _ in range(steps):
        due = [at for at in range(len(pool[1])) if known_sides(pool, desk.results(), at)]
        if due and source.random() < 0.4:
            at = source.choice(due)
            events.append(("result", at, source.choice(known_sides(pool, desk.results(), at))))
            desk.result(*events[-1][1:])
        elif len(desk.claims()) < 8:
            team, rivals, _ = random_question(source, len(pool[3]))
            margin = best_margin(pool, desk.results(), team, rivals) + source.choice((1, 1, 2, 5))
            if rivals and margin <= 200:
                events.append(("claim", (team, rivals, margin)))
                desk.claim(events[-1][1])
    return desk, events


class LogTest(unittest.TestCase):
    def check(self, desk, events):
        found = log(desk)
        self.assertIs(type(found), list)
        self.assertEqual([event for event, _ in found], events)
        self.assertEqual({type(entry) for entry in found} | {type(event) for event, _ in found} | {tuple}, {tuple})
        results = {}
        for event, evidence in found:
            if event[0] == "result":
                self.assertIsNone(evidence)
                results[event[1]] = event[2]
            else:
                self.assertTrue(keeps_cover(((desk.pool, event[1]),), results, evidence))
                numbers = [number for row in evidence for leads in row.values() for lead in leads for number in lead]
                self.assertTrue(all([abs(number) <= 10 ** 30 for number in numbers]))
        inner = [id(holder) for holder in holders(found)]
        self.assertEqual(len(inner), len(set(inner)), "two lists or dicts in one log are one")
        self.assertEqual(log(desk), found)
        check_bool(self, True, is_log, desk.pool, found)
        behind = replayed(desk.pool, found)
        self.assertIs(type(behind), tuple)
        self.assertEqual(behind, (desk.results(), desk.claims()))
        return found

    def test_examples(self):
        check_bool(self, True, is_log, POOL, [(("result", 0, 0), None)])
        check_bool(self, False, is_log, POOL, [(("result", 2, 0), None)])
        self.assertEqual(replayed(POOL, [(("result", 0, 3), None)]), ({0: 3}, []))

    def test_a_new_desk(self):
        self.assertEqual(self.check(Desk(POOL), []), [])
        self.assertEqual(replayed(POOL, []), ({}, []))

    def test_covers_are_for_the_results_at_that_time(self):
        events = [("claim", NEVER), ("result", 0, 0), ("claim", FIRST), ("result", 1, 2), ("claim", FIRST),
                  ("result", 2, 0), ("claim", FIRST), ("claim", NEVER)]
        found = self.check(desk_with(POOL, *events), events)
        sides = [sorted(found[at][1][2]) for at in (0, 2, 4, 6, 7)]
        self.assertEqual(sides, [[0, 1, 2, 3], [0, 1, 2], [0, 2], [0], [0]])

    def test_the_same_claim_again(self):
        events = [("claim", NEVER)] * 8
        self.check(desk_with(POOL, *events), events)

    def test_what_was_taken_back_is_not_in_it(self):
        desk = desk_with(POOL, ("result", 0, 0), ("claim", FIRST), ("result", 1, 2))
        desk.undo()
        desk.undo()
        desk.result(1, 1)
        self.check(desk, [("result", 0, 0), ("result", 1, 1)])

    def test_new_logs(self):
        check_new(self, log, desk_with(POOL, ("result", 0, 0), ("claim", FIRST), ("claim", FIRST), ("result", 1, 2)))
        told = log(desk_with(POOL, ("result", 0, 0), ("claim", FIRST), ("result", 1, 2)))
        check_new(self, replayed, POOL, told)

    def test_random_desks(self):
        source = Random(71)
        for _ in range(40):
            tree = random_tree(source, source.randint(2, 8))
            pool = random_pool(source, tree, inside_of(tree), source.randint(1, 5))
            self.check(*random_desk(source, pool, 14))

    def test_sixteen_sides(self):
        source = Random(72)
        for pool in (EVEN_300, CHAIN_300):
            best = best_margin(pool, {}, *FOUR_RIVALS[:2])
            desk = Desk(pool)
            desk.claim((*FOUR_RIVALS[:2], best + 1))
            results = random_results(source, parts_of(pool[0]), 12)
            for match in sorted(results):
                desk.result(match, results[match])
            desk.claim((*FOUR_RIVALS[:2], best + 1))
            found = log(desk)
            check_bool(self, True, is_log, pool, found)
            self.assertEqual(replayed(pool, found), (results, [(*FOUR_RIVALS[:2], best + 1)] * 2))
            self.assertTrue(keeps_cover(((pool, found[-1][0][1]),), results, found[-1][1]))


class IsLogTest(unittest.TestCase):
    def check(self, good, *entries):
        check_bool(self, good, is_log, POOL, list(entries))

    def test_results(self):
        self.check(True)
        self.check(True, NAMED)
        self.check(True, (("result", 1, 2), None), (("result", 0, 3), None), (("result", 2, 3), None))
        self.check(False, (("result", 2, 3), None), (("result", 1, 2), None), (("result", 0, 3), None))
        self.check(False, NAMED, NAMED)
        self.check(False, NAMED, (("result", 0, 3), None))
        for match in range(-1, 4):
            for side in range(-1, 5):
                good = (match, side) in ((0, 0), (0, 3), (1, 1), (1, 2))
                self.check(good, (("result", match, side), None))
                self.check(good and match == 1, NAMED, (("result", match, side), None))
        for match, side in ((False, 0), (0, False), (True, 1), (1, True), (None, 0), (0, None), ("0", 0), ([0], 0),
                            ((0,), 0), ({}, 0), (0, [0]), (0, {}), (10 ** 29, 0), (0, 10 ** 29)):
            self.check(False, (("result", match, side), None))
            self.check(False, (("result", 1, 1), None), (("result", match, side), None))

    def test_evidence_of_results(self):
        for evidence in junk() + [COVER, [COVER], NAMED, FIRST]:
            self.check(evidence is None, (("result", 0, 0), evidence))

    def test_claims(self):
        self.check(True, NAMED, CLAIMED)
        self.check(True, (("claim", NEVER), NEVER_COVER))
        self.check(True, NAMED, CLAIMED, CLAIMED, (("result", 1, 2), None))
        for margin, good in ((-1, False), (0, True), (1, True), (200, True), (201, False), (False, False)):
            self.check(good, NAMED, (("claim", (*FIRST[:2], margin)), COVER))
        # The cover is for other results, or for another claim.
        self.check(False, CLAIMED)
        self.check(False, CLAIMED, NAMED)
        self.check(False, (("result", 0, 3), None), CLAIMED)
        self.check(False, NAMED, (("result", 1, 2), None), CLAIMED)
        self.check(False, NAMED, (("claim", NEVER), COVER))
        self.check(False, NAMED, (("claim", FIRST), NEVER_COVER))
        self.check(False, NAMED, (("claim", NEVER), NEVER_COVER))
        self.check(False, NAMED, (("claim", ((1,), ((2,), (0,)), 0)), COVER))
        self.check(False, (("claim", ALWAYS), [{0: [()], 3: [()]}, {1: [()], 2: [()]}, {at: [()] for at in range(4)}]))

    def test_evidence_of_claims(self):
        for evidence in junk() + twists(COVER) + [COVER[:2], COVER[1:], COVER[::-1], [COVER], tuple(COVER), (COVER,)]:
            self.check(False, NAMED, (("claim", FIRST), evidence))
        for at, side, leads, good in ((0, 0, [(-2, -1)], False), (0, 0, [(-1, -2)], False), (1, 2, [(1, 0)], False),
                                      (2, 2, [(3, -1)], False), (2, 2, [(4, 0)], False), (2, 2, [(4, -2)], False),
                                      (2, 2, [(4, -1), (9, -1)], True), (2, 2, [(4, -1), (0, 0)], False),
                                      (2, 2, [], False), (2, 2, [(4, -1), (-1, 9)], True), (2, 1, [(1, -1)], True),
                                      (2, 1, [(0, -1)], False), (2, 1, [(-1, 3)], False),
                                      (2, 2, ((4, -1),), False), (2, 2, [[4, -1]], False),
                                      (2, 0, [(False, -1)], False), (2, 3, [(0, -1)], False), (0, 3, [(0, -1)], False)):
            value = deepcopy(COVER)
            value[at][side] = leads
            self.check(good, NAMED, (("claim", FIRST), value))

    def test_questions(self):
        for question in junk() + twists(FIRST) + [((1, 0), (), 0), ((3,), (), 0), list(FIRST), FIRST[:2], (*FIRST, 0)]:
            self.check(False, NAMED, (("claim", question), COVER))
            self.check(False, NAMED, (("claim", question), None))

    def test_eight_claims_and_a_ninth(self):
        for many in range(7, 12):
            self.check(many <= 8, NAMED, *([CLAIMED] * many))
            self.check(many <= 8, *([(("claim", NEVER), NEVER_COVER)] * min(many, 3)), NAMED,
                       *([CLAIMED] * (many - 3)))
        self.check(True, NAMED, *([CLAIMED] * 8), (("result", 1, 2), None), (("result", 2, 0), None))

    def test_entries_of_other_forms(self):
        for entry in junk() + [NAMED[:1], (*NAMED, None), list(NAMED), NAMED[0], (None, NAMED[0]), (NAMED, None),
                               ("result", 0, 0), {NAMED[0]: None}, (list(NAMED[0]), None), [NAMED]]:
            self.check(False, entry)
            self.check(False, (("result", 1, 2), None), entry)
            self.check(False, entry, (("result", 1, 2), None))
        for event in junk() + [("result",), ("result", 0), ("result", 0, 0, 0), ("Result", 0, 0), ("results", 0, 0),
                               ("undo",), ("result", (0, 0)), ("claim", 0, 0), ("claim",), ("", 0, 0), (0, 0),
                               (0, 0, 0), (None, 0, 0), (["result"], 0, 0), (("result",), 0, 0), ("0", "0", "0"),
                               "result", {"result": (0, 0)}, (True, 0, 0), ("result", 0, 0, None),
                               ("claim", FIRST, None),
                               ("claim", FIRST, COVER), ("result", FIRST), ("claim", (FIRST,))]:
            self.check(False, (event, None))
            self.check(False, NAMED, (event, COVER))
            self.check(False, NAMED, (event, None))

    def test_other_values(self):
        for value in junk():
            check_bool(self, type(value) is list and value == [], is_log, POOL, value)
        for value in (tuple([NAMED, CLAIMED]), NAMED, CLAIMED, {0: NAMED}, dict([NAMED]), {NAMED[0]: None}, [[NAMED]],
                      deep(NAMED, 90, list), [NAMED] * 40000, [CLAIMED] * 40000, ("result", 0, 0)):
            check_bool(self, False, is_log, POOL, value)
        for value in twists([NAMED, CLAIMED]):
            check_bool(self, False, is_log, POOL, value)

    def test_huge_integers(self):
        huge = 10 ** 3990
        self.check(False, (("result", huge, 0), None))
        self.check(False, NAMED, (("claim", (*FIRST[:2], huge)), COVER))
        value = deepcopy(COVER)
        value[2][1] = [(huge, -1), (-huge, -huge)]
        self.check(True, NAMED, (("claim", FIRST), value))
        value[2][1] = [(huge, 0)]
        self.check(False, NAMED, (("claim", FIRST), value))

    def test_other_pools(self):
        told = log(desk_with(POOL, ("result", 0, 0), ("claim", FIRST)))
        for pool, good in ((POOL, True), (((3, 0), (1, 2)), True), (((1, 2), (0, 3)), False)):
            pool = pool if pool == POOL else (pool, *POOL[1:])
            sheets = tuple([sheet if good else (*sheet[1::-1], sheet[2]) for sheet in POOL[3]])
            check_bool(self, good, is_log, (*pool[:3], sheets), told)
        check_bool(self, False, is_log, LATE, told)
        check_bool(self, True, is_log, (*POOL[:3], (POOL[3][2], POOL[3][1], POOL[3][0])),
                   [NAMED, (("claim", ((1,), ((2,), (0,)), 0)), COVER)])

    def test_too_many_plays_no_part(self):
        # One lead that is nowhere less than any other is enough for a margin that is never reached.
        never, always = (*FOUR_RIVALS[:2], 200), (*FOUR_RIVALS[:2], -200)
        tops = [{side: [tuple([max(numbers) for numbers in zip(*row[side])])] for side in row}
                for row in counts_of(((CHAIN_301, FOUR_RIVALS),), {})]
        check_bool(self, True, is_log, CHAIN_301, [(("claim", never), tops)])
        check_bool(self, True, is_log, CHAIN_301, [(("claim", never), tops)] * 8)
        check_bool(self, False, is_log, CHAIN_301, [(("claim", always), tops)])
        self.assertEqual(replayed(CHAIN_301, [(("claim", never), tops)] * 2), ({}, [never] * 2))
        for side in tops[0]:
            tops[0][side] = [tuple([number - 1 for number in tops[0][side][0]])]
        check_bool(self, False, is_log, CHAIN_301, [(("claim", never), tops)])

    def test_logs_with_one_change(self):
        source = Random(73)
        kinds = {True: 0, False: 0}
        for _ in range(30):
            tree = random_tree(source, source.randint(2, 6))
            pool = random_pool(source, tree, inside_of(tree), source.randint(2, 4))
            desk, _ = random_desk(source, pool, 10)
            told = log(desk)
            for at, where in [(source.randrange(len(told)), source.randrange(len(told))) for _ in range(6)]:
                other_evidence = [(told[at][0], told[where][1])]
                for value in (told[:at] + told[at + 1:], told[:at] + [told[at]] + told[at:],
                              self.exchanged(told, at, where), told[:at] + other_evidence + told[at + 1:]):
                    good = self.is_right(pool, value)
                    kinds[good] += 1
                    check_bool(self, good, is_log, pool, value)
                    if good:
                        results, claims = replayed(pool, value)
                        self.assertEqual(results, {event[1]: event[2] for event, _ in value if event[0] == "result"})
                        self.assertEqual(claims, [event[1] for event, _ in value if event[0] == "claim"])
        self.assertGreater(min(kinds.values()), 100)

    def exchanged(self, told, at, where):
        """Return a log with two entries exchanged."""
        value = list(told)
        value[at], value[where] = value[where], value[at]
        return value

    def is_right(self, pool, value):
        """Return whether a list of events and evidence of the right forms is a log."""
        results, claims = {}, 0
        for event, evidence in value:
            if event[0] == "result":
                sides = known_sides(pool, results, event[1])
                if sides is None or event[2] not in sides or evidence is not None:
                    return False
                results[event[1]] = event[2]
            else:
                claims += 1
                if claims > 8 or not keeps_cover(((pool, event[1]),), results, evidence):
                    return False
                self.assertEqual(hopes_of(pool, results, event[1]), [])
        return True


if __name__ == "__main__":
    unittest.main()
