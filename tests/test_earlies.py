"""The early world, held against a listing of all lots of ready deals."""

import random
import unittest
from itertools import permutations

from ownseen.earlies import Apart, EarlyLets, apart, keeps_early, lets_early, right_early, torn_early
from ownseen.errors import BadNumber, BadStamps, BadValue, Impossible, TooMany
from ownseen.histories import History
from ownseen.kinds import Kind
from ownseen.makers import chest, counter, purse, shelf, tickets
from ownseen.orders import Fits
from ownseen.own import Breaks, Keeps, keeps
from ownseen.stairs import StampTorn, stair, stair_weave
from ownseen.stamps import Stamped
from ownseen.watches import Spoils
from ownseen.weaves import Weave, at, order_of_all

from tests.helper import (
    GREAT, NO_NUMBERS, NO_OBJECTS, NO_ROWS, SeenTest, by_deals, deals_with, early_spoilt, early_states, ended, free_deals,
    great_kind, let_only, opened_some, plain_by_stamps, plain_left, ready_deals, right_along, some_histories, stamped_rows, strict,
    weave_stands,
)

COIN = Kind(["take"], ["done", "short"], 2, 1, [(0, 0, 1, 0), (1, 0, 0, 0)])
KINDS = (COIN, shelf(2, 0), purse(3, 1), counter(3), chest(2))
ROWS = stamped_rows(141, some_histories(142, 400, deals=(0, 1, 2, 5, 7, 11), kinds=KINDS))


def opened_rows(seed, rows):
    """The rows with some yeses left out, the stamps of deals that are left no event, too."""
    dice, told = random.Random(seed), []
    for kind, events, stamps in rows:
        some, by_deal = opened_some(dice, events), by_deals(events, stamps)
        told.append((kind, some, [by_deal[deal] for deal in sorted({event[1] for event in some})]))
    return told


OPENED = opened_rows(143, ROWS)


class KeepsEarlyTest(SeenTest):
    def test_against_the_words(self):
        counts = [0, 0]
        for kind, events, stamps in ROWS:
            stamped = Stamped(History(kind, events), stamps)
            order = plain_by_stamps(deals_with(events, "yes"), by_deals(events, stamps))
            left = plain_left(kind, events, order)
            told = keeps_early(stamped)
            self.assertEqual((type(told), strict(told.order)), (Breaks if left is None else Fits, strict(order)))
            self.assertEqual(keeps_early(stamped=stamped), told)
            counts[bool(told)] += 1
        self.assertGreater(min(counts), 60)

    def test_more_than_seven_deals(self):
        works = {deal: [(0, 0)] if deal == 3 else [(0, 1)] for deal in range(12)}
        history = History(COIN, ended(works))
        order = (3, 0, 1, 2, 4, 5, 6, 7, 8, 9, 10, 11)
        self.assertEqual(keeps_early(Stamped(history, [1, 2, 3, -GREAT, 5, 6, 7, 8, 9, 10, 11, GREAT])), Fits(order))
        self.assertEqual(keeps_early(Stamped(history, list(range(12)))), Breaks(list(range(12))))


class LetsEarlyTest(SeenTest):
    def test_against_all_lots(self):
        counts = {}
        for kind, events, stamps in OPENED:
            stamped, by_deal = Stamped(History(kind, events), stamps), by_deals(events, stamps)
            free = free_deals(events)
            for deal in range(12):
                if deal not in free:
                    self.assert_raises(BadNumber("deal"), lets_early, stamped, deal)
                    continue
                spoilt, told = early_spoilt(kind, events, by_deal, deal), lets_early(stamped, deal)
                wanted = Spoils(*spoilt) if spoilt else EarlyLets(early_states(kind, events, by_deal, deal))
                self.assertEqual((told, strict(told.parts)), (wanted, strict(wanted.parts)))
                self.assertEqual(lets_early(stamped=stamped, deal=deal), told)
                place = (bool(told), bool(ready_deals(events)), not told and min(len(told.deals), 2))
                counts[place] = counts.get(place, 0) + 1
        for place in ((True, True, False), (True, False, False), (False, False, 1), (False, True, 1), (False, True, 2)):
            self.assertGreater(counts.get(place, 0), 5, place)

    def test_the_first_lot(self):
        # Three take a coin where two lie.
        history = History(purse(2, 2), ended({deal: [(2, 0)] for deal in (2, 6, 9)}, sure=False)[:-1])
        self.assertEqual(lets_early(Stamped(history, [5, 1, 3]), 9), Spoils([2, 6, 9], [6, 9, 2]))
        four = ended({deal: [(2, 0)] for deal in (2, 6, 9, 10)}, sure=False)[:-1]
        self.assertEqual(lets_early(Stamped(History(purse(2, 2), four), [5, 1, 3, -7]), 10), Spoils([2, 6, 10], [10, 6, 2]))

    def test_what_was_seen_counts_nowhere(self):
        # Deal 1 saw the yes of deal 0, and yet stands ahead of it.
        events = ended({0: [(0, 0)]}) + [("ask", 1, 0), ("answer", 1, 1)]
        self.assertEqual(lets_early(Stamped(History(COIN, events), [8, 3]), 1), Spoils([1], [1, 0]))
        self.assertEqual(lets_early(Stamped(History(COIN, events), [3, 8]), 1).rooms, ((1,), (0,), (0,)))

    def test_all_twelve_deals(self):
        dice, kind = random.Random(144), great_kind()
        works = {deal: [(dice.randrange(5), dice.randrange(2)) for _ in range(4)] for deal in range(12)}
        events = ended(works, sure=False)[:-1]
        stamps = dice.sample(range(-50, 50), 12)
        self.assertEqual(len(self.assert_short(lets_early, Stamped(History(kind, events), stamps), 11).rooms), 13)
        coins = History(purse(8, 8), ended({deal: [(2, 0)] for deal in range(12)}, sure=False)[:-1])
        told = self.assert_short(lets_early, Stamped(coins, list(range(12))), 11)
        self.assertEqual(told, Spoils([0, 1, 2, 3, 4, 5, 6, 7, 11], [0, 1, 2, 3, 4, 5, 6, 7, 11]))

    def test_errors(self):
        events = [("ask", 0, 0), ("answer", 0, 0), ("ready", 1), ("ask", 4, 0), ("ready", 6), ("yes", 6), ("no", 7)]
        stamped = Stamped(History(COIN, events), [5, 4, 3, 2, 1])
        values = ("stamped", NO_OBJECTS + (COIN, stamped.history, Keeps([])), BadValue("stamped"))
        self.assert_faults(lets_early, {"stamped": stamped, "deal": 0}, [
            values, ("deal", NO_NUMBERS + (1, 4, 6, 7, 2, 11, 12, -1, 10 ** 60), BadNumber("deal")),
        ])
        for function in (keeps_early, right_early):
            self.assert_faults(function, {"stamped": stamped}, [values])
        self.assert_faults(torn_early, {"stamped": Stamped(History(COIN, ended({0: [(0, 1)]})), [1])}, [values])
        self.assert_raises(BadNumber("deal"), lets_early, Stamped(History(COIN, [("ask", 1, 0), ("answer", 1, 0)]), [3]), True)


class RightEarlyTest(SeenTest):
    def test_against_all_lots_at_each_ready(self):
        counts = [0, 0]
        for kind, events, stamps in ROWS:
            by_deal = by_deals(events, stamps)
            for some in (events, let_only(kind, events, by_deal, early_spoilt)):
                stamped = Stamped(History(kind, some), [by_deal[deal] for deal in sorted({event[1] for event in some})])
                wanted = right_along(kind, some, by_deal, early_spoilt)
                self.assertIs(right_early(stamped), wanted)
                self.assertIs(right_early(stamped=stamped), wanted)
                counts[wanted] += bool(deals_with(some, "ready"))
        self.assertGreater(min(counts), 60)

    def test_a_house_that_is_right_all_along_keeps_the_rule(self):
        for kind, events, stamps in ROWS[:150]:
            by_deal = by_deals(events, stamps)
            kept = let_only(kind, events, by_deal, early_spoilt)
            for many in range(len(kept) + 1):
                some = kept[:many]
                stamped = Stamped(History(kind, some), [by_deal[deal] for deal in sorted({event[1] for event in some})])
                self.assertTrue(right_early(stamped))
                self.assertTrue(keeps_early(stamped))

    def test_deals_that_were_called_off_later_were_to_be_let_too(self):
        events = [("ask", 0, 0), ("answer", 0, 1), ("ready", 0), ("no", 0)]
        self.assertIs(right_early(Stamped(History(COIN, events), [1])), False)
        self.assertIs(right_early(Stamped(History(COIN, events[:2] + events[3:]), [1])), True)

    def test_deals_that_did_nothing(self):
        events = [("ready", 0), ("yes", 0), ("ready", 5), ("ask", 1, 0), ("answer", 1, 0), ("ready", 1), ("ready", 7)]
        self.assertIs(right_early(Stamped(History(COIN, events), [4, 3, 2, 1])), True)
        self.assertIs(right_early(Stamped(History(COIN, []), [])), True)

    def test_all_twelve_deals(self):
        events = ended({deal: [(2, 0)] for deal in range(8)}) + [(word, deal) for deal in range(8, 12) for word in ("ready", "yes")]
        stamped = Stamped(History(purse(8, 8), events), [GREAT - deal for deal in range(12)])
        self.assertIs(self.assert_short(right_early, stamped), True)
        less = Stamped(History(purse(8, 7), events), [GREAT - deal for deal in range(12)])
        self.assertIs(self.assert_short(right_early, less), False)


class TornEarlyTest(SeenTest):
    def test_against_the_words(self):
        counts = [0, 0]
        for kind, events, stamps in ROWS:
            stamped = Stamped(History(kind, events), stamps)
            order = plain_by_stamps(deals_with(events, "yes"), by_deals(events, stamps))
            fitting = plain_left(kind, events, order) is not None
            counts[fitting] += 1
            if fitting:
                self.assert_raises(Impossible(Fits(order)), torn_early, stamped)
                continue
            told = torn_early(stamped)
            self.assertEqual(told, StampTorn(stair_weave(stamped), stamps))
            self.assertEqual(strict(told.stamps), strict(stamps))
            self.assertFalse(order_of_all(told.weave))
            self.assertEqual(torn_early(stamped=stamped), told)
        self.assertGreater(min(counts), 60)

    def test_eight_deals(self):
        for many in (7, 8):
            for works in ([(0, 0)], [(0, 1)], []):
                stamped = Stamped(History(COIN, ended({deal: works for deal in range(many)})), list(range(many)))
                if many == 8:
                    self.assert_raises(TooMany("deals", 7), torn_early, stamped)
                elif works:
                    self.assertEqual(torn_early(stamped).weave, stair_weave(stamped))
                else:
                    self.assert_raises(Impossible(Fits(list(range(7)))), torn_early, stamped)
        self.assert_raises(Impossible(Fits([])), torn_early, Stamped(History(COIN, []), []))


class ApartTest(SeenTest):
    def test_against_the_words(self):
        for many in range(1, 6):
            for stamps in permutations(range(-2, many - 2)):
                if list(stamps) == sorted(stamps):
                    self.assert_raises(Impossible(Fits(list(range(many)))), apart, stamps)
                    continue
                weave, told = apart(stamps).weave, []
                for deal, stamp in enumerate(stamps):
                    place = sum(other < stamp for other in stamps)
                    told += [("ask", 0, deal, place), ("answer", 0, deal, 0), ("ask", 1, deal, 0), ("answer", 1, deal, deal)]
                    told += [("ready", 0, deal), ("ready", 1, deal), ("yes", 0, deal), ("yes", 1, deal)]
                self.assertEqual((weave.kinds, strict(weave.events)), ((stair(many), tickets(many)), strict(told)))
                self.assertEqual(apart(stamps=list(stamps)), Apart(weave))
                self.assertFalse(order_of_all(weave))
                self.assertTrue(right_along(stair(many), list(at(weave, 0).events), dict(enumerate(stamps)), early_spoilt))
                self.assertTrue(keeps(at(weave, 1)))
                self.assertTrue(all(weave_stands(weave.kinds, weave.events[:place], event) for place, event in enumerate(weave.events)))

    def test_great_stamps_and_seven_deals(self):
        self.assertEqual(self.assert_short(apart, [GREAT - deal for deal in range(7)]), apart([7, 6, 5, 4, 3, 2, 1]))
        self.assertEqual(apart([-GREAT, GREAT, 0]), apart((0, 2, 1)))
        self.assert_raises(Impossible(Fits(list(range(7)))), apart, [-GREAT, -3, 0, 1, 2, 3, GREAT])
        paper = apart([1, 0])
        self.assertEqual((paper.word, paper.parts), ("apart", (paper.weave,)))

    def test_errors(self):
        wrongs = NO_ROWS + ([], [1, 1], [True, 0], [1, None], [2.0, 1], ["2", 1], [[1], 0], list(range(8, 0, -1)), [3, 2, 3], {2: 1, 1: 2})
        self.assert_faults(apart, {"stamps": [2, 1]}, [("stamps", wrongs, BadStamps("stamps"))])

    def test_what_is_passed_stays(self):
        stamps = [2, 1]
        first = apart(stamps)
        self.assertEqual(stamps, [2, 1])
        stamps[0] = 0
        self.assertEqual(first, apart([2, 1]))
        self.assertIsInstance(first.weave, Weave)


if __name__ == "__main__":
    unittest.main()
