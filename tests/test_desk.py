import unittest
from copy import deepcopy
from random import Random

from poolhopes.desk import Desk
from poolhopes.errors import InvalidEvent, PoolhopesError, Refused, TooMany
from poolhopes.logs import log
from tests.brute import best_margin, hopes_of, inside_of, known_sides
from tests.samples import (CHAIN_300, CHAIN_301, EVEN_300, FIRST, FOUR_RIVALS, LATE, POOL, deep, junk, random_pool,
                           random_question, random_tree, twists)

# No ending makes a team lead itself.
NEVER = ((0,), ((0,),), 1)
ALWAYS = ((1,), (), 0)


def desk_with(pool, *events):
    """Return a desk at which these events were made."""
    desk = Desk(pool)
    for name, *arguments in events:
        if name == "result":
            desk.result(*arguments)
        else:
            desk.claim(*arguments)
    return desk


class DeskCase(unittest.TestCase):
    def check_refusal(self, error, attribute, value, call, *arguments):
        with self.assertRaises(error) as caught:
            call(*arguments)
        self.assertIs(type(caught.exception), error)
        self.assertIsInstance(caught.exception, PoolhopesError)
        self.assertEqual(getattr(caught.exception, attribute), value)
        return caught.exception

    def check_state(self, desk, pool, events):
        """Check all that a desk tells, by the events that it should have."""
        self.assertEqual(desk.pool, pool)
        results, claims = desk.results(), desk.claims()
        self.assertIs(type(results), dict)
        self.assertIs(type(claims), list)
        self.assertEqual(results, {event[1]: event[2] for event in events if event[0] == "result"})
        self.assertEqual(claims, [event[1] for event in events if event[0] == "claim"])
        self.assertEqual([event for event, _ in log(desk)], events)


class ResultTest(DeskCase):
    def test_examples(self):
        desk = Desk(POOL)
        self.assertIsNotNone(desk.hope(FIRST))
        self.assertIsNone(desk.result(0, 0))
        self.assertIsNone(desk.hope(FIRST))
        self.assertIsNone(desk.claim(FIRST))
        self.assertEqual(desk.results(), {0: 0})
        self.assertEqual(desk.claims(), [((1,), ((0,), (2,)), 0)])
        self.check_refusal(InvalidEvent, "event", ("result", 2, 0), Desk(POOL).result, 2, 0)

    def test_both_parts_known_and_not_named_yet(self):
        desk = Desk(POOL)
        for match, side in ((2, 0), (2, 3), (0, 1), (0, 2), (1, 0), (1, 3), (0, -1), (0, 4), (3, 0), (-1, 0), (-3, 0)):
            self.check_refusal(InvalidEvent, "event", ("result", match, side), desk.result, match, side)
            self.check_state(desk, POOL, [])
        desk.result(1, 2)
        for match, side in ((1, 2), (1, 1), (2, 2), (2, 0)):
            self.check_refusal(InvalidEvent, "event", ("result", match, side), desk.result, match, side)
        desk.result(0, 3)
        for match, side in ((0, 3), (0, 0), (1, 2), (2, 0), (2, 1)):
            self.check_refusal(InvalidEvent, "event", ("result", match, side), desk.result, match, side)
        self.assertIsNone(desk.result(2, 3))
        events = [("result", 1, 2), ("result", 0, 3), ("result", 2, 3)]
        self.check_state(desk, POOL, events)
        for match in range(-1, 5):
            for side in range(-1, 5):
                self.check_refusal(InvalidEvent, "event", ("result", match, side), desk.result, match, side)
        self.check_state(desk, POOL, events)

    def test_bools_are_no_integers(self):
        for match, side in ((False, 0), (0, False), (False, False), (True, 1), (1, True), (True, 2)):
            desk = Desk(POOL)
            error = self.check_refusal(InvalidEvent, "event", ("result", match, side), desk.result, match, side)
            self.assertEqual([type(part) for part in error.event], [str, type(match), type(side)])
            self.check_state(desk, POOL, [])
        desk = desk_with(POOL, ("result", 0, 0), ("result", 1, 1))
        self.check_refusal(InvalidEvent, "event", ("result", 2, True), desk.result, 2, True)
        self.check_refusal(InvalidEvent, "event", ("result", 2, False), desk.result, 2, False)

    def test_any_values(self):
        for events in ((), (("result", 0, 0),), (("result", 0, 0), ("result", 1, 1), ("result", 2, 1))):
            desk = desk_with(POOL, *events)
            for value in junk() + [deep(0, 90, list), [1], (1,), {1: 1}, "1", None]:
                before = deepcopy(value)
                if type(value) is not int or value not in (0, 1, 2):
                    self.check_refusal(InvalidEvent, "event", ("result", value, 1), desk.result, value, 1)
                if type(value) is not int or value not in (0, 1, 2, 3):
                    self.check_refusal(InvalidEvent, "event", ("result", 1, value), desk.result, 1, value)
                if type(value) is not int or value not in (0, 1):
                    self.check_refusal(InvalidEvent, "event", ("result", value, before), desk.result, value, before)
                self.assertEqual(value, before)
            self.check_state(desk, POOL, list(events))


class ClaimTest(DeskCase):
    def test_accepted_without_a_hope_and_refused_with_one(self):
        desk = Desk(POOL)
        hopes = hopes_of(POOL, {}, FIRST)
        with self.assertRaises(Refused) as caught:
            desk.claim(FIRST)
        self.assertIn(caught.exception.ending, hopes)
        self.assertIs(type(caught.exception.ending), tuple)
        self.check_state(desk, POOL, [])
        desk.result(0, 0)
        self.assertIsNone(desk.claim(FIRST))
        self.check_refusal(Refused, "ending", (0, 2, 0), desk_with(
            POOL, ("result", 0, 0), ("result", 1, 2), ("result", 2, 0)).claim, ALWAYS)
        self.check_state(desk, POOL, [("result", 0, 0), ("claim", FIRST)])
        # What was claimed stays claimed, and can be claimed again.
        desk.result(1, 2)
        desk.claim(FIRST)
        self.check_state(desk, POOL, [("result", 0, 0), ("claim", FIRST), ("result", 1, 2), ("claim", FIRST)])

    def test_any_values(self):
        desk = desk_with(POOL, ("result", 0, 0))
        for value in junk() + twists(FIRST) + twists(((0, 1), ((0,), (1, 2)), 1)):
            before = deepcopy(value)
            self.check_refusal(InvalidEvent, "event", ("claim", value), desk.claim, value)
            self.assertEqual(value, before)
        for value in (("claim", FIRST), (FIRST,), list(FIRST), FIRST[:2], (*FIRST, 0), ((1, 0), (), 0), ((3,), (), 0),
                      (*FIRST[:2], 201), (*FIRST[:2], -201), ((0,), ((1,),) * 5, 0), ((True,), ((0,),), 0),
                      ((1,), ((False,),), 0), ((1,), ((0,),), True), deep(FIRST, 90, tuple)):
            self.check_refusal(InvalidEvent, "event", ("claim", value), desk.claim, value)
        self.check_state(desk, POOL, [("result", 0, 0)])

    def test_eight_claims_and_a_ninth(self):
        desk = Desk(POOL)
        claims = [("claim", (*FIRST[:2], 200 - at)) for at in range(9)]
        for at, event in enumerate(claims[:8]):
            self.check_state(desk, POOL, claims[:at])
            self.assertIsNone(desk.claim(event[1]))
        for question in (claims[8][1], claims[0][1], NEVER, ALWAYS, FIRST):
            self.check_refusal(InvalidEvent, "event", ("claim", question), desk.claim, question)
        self.check_state(desk, POOL, claims[:8])
        # Results are still taken in, and claims again behind one taken back.
        desk.result(0, 3)
        self.assertEqual(desk.undo(), ("result", 0, 3))
        self.assertEqual(desk.undo(), claims[7])
        with self.assertRaises(Refused):
            desk.claim(ALWAYS)
        self.assertIsNone(desk.claim(claims[8][1]))
        self.check_refusal(InvalidEvent, "event", claims[7], desk.claim, claims[7][1])
        self.check_state(desk, POOL, [*claims[:7], claims[8]])

    def test_refused_claims_are_not_counted(self):
        desk = Desk(POOL)
        for _ in range(20):
            with self.assertRaises(Refused):
                desk.claim(ALWAYS)
            with self.assertRaises(InvalidEvent):
                desk.claim(None)
        for _ in range(8):
            desk.claim(NEVER)
        self.check_state(desk, POOL, [("claim", NEVER)] * 8)

    def test_all_matches_named(self):
        desk = desk_with(POOL, ("result", 0, 3), ("result", 1, 2), ("result", 2, 2))
        for margin in range(-3, 9):
            question = (*FIRST[:2], margin)
            if margin <= 2:
                self.assertEqual(desk.hope(question), (3, 2, 2))
                self.check_refusal(Refused, "ending", (3, 2, 2), desk.claim, question)
            else:
                self.assertIsNone(desk.hope(question))
                self.assertIsNone(desk.claim(question))
        self.assertEqual(desk.claims(), [(*FIRST[:2], margin) for margin in range(3, 9)])

    def test_too_many(self):
        desk = Desk(CHAIN_301)
        for margin in (-200, 0, 3, 200):
            question = (*FOUR_RIVALS[:2], margin)
            self.check_refusal(TooMany, "limit", 300, desk.claim, question)
            self.check_refusal(TooMany, "limit", 300, desk.hope, question)
        for value in (None, (*FOUR_RIVALS[:2], 201)):
            self.check_refusal(InvalidEvent, "event", ("claim", value), desk.claim, value)
        self.check_state(desk, CHAIN_301, [])
        for _ in range(8):
            desk.claim(NEVER)
        # A ninth one is no event, whatever it asks; a hope is still asked for in vain.
        self.check_refusal(InvalidEvent, "event", ("claim", FOUR_RIVALS), desk.claim, FOUR_RIVALS)
        self.check_refusal(TooMany, "limit", 300, desk.hope, FOUR_RIVALS)
        desk.undo()
        self.check_refusal(TooMany, "limit", 300, desk.claim, FOUR_RIVALS)
        desk.result(0, 4)
        desk.result(1, 1)
        self.assertIsNone(desk.claim((*FOUR_RIVALS[:2], 200)))
        self.assertEqual(len(desk.claims()), 8)

    def test_exactly_300_leads(self):
        for pool in (CHAIN_300, EVEN_300):
            best = best_margin(pool, {}, *FOUR_RIVALS[:2])
            desk = Desk(pool)
            with self.assertRaises(Refused) as caught:
                desk.claim((*FOUR_RIVALS[:2], best))
            self.assertEqual(caught.exception.ending, desk.hope((*FOUR_RIVALS[:2], best)))
            self.assertIsNone(desk.claim((*FOUR_RIVALS[:2], best + 1)))


class UndoTest(DeskCase):
    def test_an_empty_log(self):
        desk = Desk(POOL)
        self.assertIsNone(desk.undo())
        desk.result(0, 0)
        self.assertEqual(desk.undo(), ("result", 0, 0))
        self.assertIsNone(desk.undo())
        self.assertIsNone(desk.undo())
        self.check_state(desk, POOL, [])

    def test_the_last_event_goes_first(self):
        events = [("result", 0, 0), ("claim", FIRST), ("result", 1, 2), ("claim", NEVER), ("result", 2, 0)]
        desk = desk_with(POOL, *events)
        for many in range(5, 0, -1):
            self.check_state(desk, POOL, events[:many])
            self.assertEqual(desk.undo(), events[many - 1])
        self.check_state(desk, POOL, [])
        self.assertIsNone(desk.undo())

    def test_what_was_taken_back_can_be_made_otherwise(self):
        desk = desk_with(POOL, ("result", 0, 0), ("claim", FIRST))
        desk.undo()
        desk.undo()
        with self.assertRaises(Refused):
            desk.claim(FIRST)
        desk.result(0, 3)
        self.assertIn(desk.hope(FIRST), hopes_of(POOL, {0: 3}, FIRST))
        self.check_state(desk, POOL, [("result", 0, 3)])


class EqualTest(DeskCase):
    def check_equal(self, one, other, equal):
        self.assertIs(one == other, equal)
        self.assertIs(other == one, equal)
        self.assertIs(one != other, not equal)

    def test_desks_that_differ_in_one_event(self):
        results = (("result", 0, 0), ("result", 1, 2))
        desks = [desk_with(POOL, *events) for events in (
            (), results[:1], results[1:], results, results[::-1], (("result", 0, 3), results[1]),
            (*results, ("result", 2, 0)), (*results, ("result", 2, 2)), (*results, ("claim", NEVER)),
            (*results, ("claim", NEVER), ("claim", NEVER)), (("claim", NEVER), *results),
            (results[0], ("claim", NEVER), results[1]), (*results, ("claim", (*NEVER[:2], 2))),
            (*results, ("claim", FIRST)), (("claim", NEVER),))]
        for at, one in enumerate(desks):
            for where, other in enumerate(desks):
                self.check_equal(one, other, at == where)

    def test_other_pools(self):
        for pool in ((POOL[0], (1, 1, 3), *POOL[2:]), (*POOL[:2], 2, POOL[3]), (*POOL[:3], POOL[3][:2]),
                     (((3, 0), (1, 2)), *POOL[1:]), LATE):
            self.check_equal(Desk(POOL), Desk(pool), False)
            self.check_equal(Desk(pool), Desk(deepcopy(pool)), True)
            self.check_equal(desk_with(POOL, ("claim", NEVER)), desk_with(pool, ("claim", NEVER)), False)

    def test_the_same_events_made_on_other_ways(self):
        straight = desk_with(POOL, ("result", 0, 0), ("claim", FIRST))
        desk = Desk(deepcopy(POOL))
        desk.undo()
        desk.result(1, 1)
        with self.assertRaises(Refused):
            desk.claim(FIRST)
        desk.undo()
        with self.assertRaises(InvalidEvent):
            desk.result(2, 0)
        desk.result(0, 0)
        self.check_equal(desk, straight, False)
        desk.claim(deepcopy(FIRST))
        self.check_equal(desk, straight, True)
        desk.hope(NEVER)
        desk.results()[1] = 2
        desk.claims().append(NEVER)
        with self.assertRaises(InvalidEvent):
            desk.claim([])
        self.check_equal(desk, straight, True)
        self.assertEqual(desk.hope(ALWAYS), straight.hope(ALWAYS))
        desk.undo()
        self.check_equal(desk, straight, False)

    def test_a_value_that_is_no_desk(self):
        desk = desk_with(POOL, ("result", 0, 0))
        for value in junk() + [POOL, desk.results(), desk.claims(), log(desk), [desk], (desk,), desk.pool, Desk]:
            self.assertIs(desk == value, False)
            self.assertIs(desk != value, True)
            self.assertIs(value == desk, False)

    def test_itself(self):
        desk = desk_with(POOL, ("result", 0, 0))
        self.check_equal(desk, desk, True)


class ToldTest(DeskCase):
    def test_what_was_told_stays_as_it_is(self):
        desk = desk_with(POOL, ("result", 0, 0), ("claim", FIRST))
        told = (desk.results(), desk.claims(), log(desk))
        kept = deepcopy(told)
        desk.result(1, 2)
        desk.claim(NEVER)
        self.assertEqual(told, kept)
        for _ in range(4):
            desk.undo()
        self.assertEqual(told, kept)

    def test_changing_what_was_told_changes_nothing(self):
        events = [("result", 0, 0), ("claim", FIRST)]
        desk = desk_with(POOL, *events)
        desk.results().clear()
        desk.results()[1] = 2
        desk.claims().clear()
        desk.claims().append(NEVER)
        log(desk).clear()
        log(desk)[1][1].clear()
        for row in log(desk)[1][1]:
            row.clear()
        self.check_state(desk, POOL, events)
        self.assertEqual(desk, desk_with(POOL, *events))
        self.assertIsNot(desk.results(), desk.results())
        self.assertIsNot(desk.claims(), desk.claims())

    def test_a_hope_changes_nothing_and_stays_the_same(self):
        desk = desk_with(POOL, ("result", 1, 1))
        for question in (FIRST, ALWAYS, NEVER, (*FIRST[:2], -3)):
            hope = desk.hope(question)
            self.assertEqual(desk.hope(question), hope)
            self.assertEqual(desk_with(POOL, ("result", 1, 1)).hope(question), hope)
        self.check_state(desk, POOL, [("result", 1, 1)])

    def test_desks_keep_apart(self):
        one, other = Desk(POOL), Desk(POOL)
        one.result(0, 0)
        other.claim(NEVER)
        self.check_state(one, POOL, [("result", 0, 0)])
        self.check_state(other, POOL, [("claim", NEVER)])


class RandomTest(DeskCase):
    def try_result(self, source, desk, events):
        pool = desk.pool
        match, side = source.randint(-1, len(pool[1])), source.randint(-1, len(pool[1]) + 1)
        sides = None
        if 0 <= match < len(pool[1]):
            sides = known_sides(pool, desk.results(), match)
            side = source.choice(sides) if sides and source.random() < 0.8 else side
        if sides is not None and side in sides:
            self.assertIsNone(desk.result(match, side))
            events.append(("result", match, side))
            return "named"
        self.check_refusal(InvalidEvent, "event", ("result", match, side), desk.result, match, side)
        return "not named"

    def try_claim(self, source, desk, events):
        team, rivals, _ = random_question(source, len(desk.pool[3]))
        best = best_margin(desk.pool, desk.results(), team, rivals)
        question = (team, rivals, min(200, best + source.choice((-1, 0, 1, 2))))
        hopes = hopes_of(desk.pool, desk.results(), question)
        found = desk.hope(question)
        self.assertTrue(found in hopes if hopes else found is None)
        if len(desk.claims()) == 8:
            self.check_refusal(InvalidEvent, "event", ("claim", question), desk.claim, question)
            return "ninth"
        if hopes:
            error = self.check_refusal(Refused, "ending", found, desk.claim, question)
            self.assertIn(error.ending, hopes)
            return "refused"
        self.assertIsNone(desk.claim(question))
        events.append(("claim", question))
        return "claimed"

    def test_random_events(self):
        source = Random(61)
        kinds = {}
        for _ in range(40):
            many = source.randint(2, 7)
            tree = random_tree(source, many)
            pool = random_pool(source, tree, inside_of(tree), source.randint(1, 5))
            desk, events = Desk(pool), []
            for _ in range(40):
                kind = source.choice(("result", *["claim"] * 6, "undo"))
                if kind == "undo":
                    self.assertEqual(desk.undo(), events.pop() if events else None)
                else:
                    made = self.try_result if kind == "result" else self.try_claim
                    kind = made(source, desk, events)
                kinds[kind] = kinds.get(kind, 0) + 1
            self.check_state(desk, pool, events)
            self.assertEqual(desk, desk_with(pool, *events))
        for kind in ("named", "not named", "ninth", "refused", "claimed", "undo"):
            self.assertGreater(kinds[kind], 20, kinds)


if __name__ == "__main__":
    unittest.main()
