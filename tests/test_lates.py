"""The late world, held against a listing of all lots of ready deals, of all orders, and of all late stamps."""

import random
import unittest
from itertools import permutations

from ownseen.errors import BadNumber, BadValue, Impossible, Misfit, TooMany
from ownseen.histories import History
from ownseen.kinds import Kind
from ownseen.lates import LateLets, keeps_late, lets_late, right_late, torn_late
from ownseen.makers import chest, counter, line, purse, shelf
from ownseen.orders import Fits
from ownseen.own import Breaks, Keeps, keeps
from ownseen.stairs import StampTorn
from ownseen.stamps import Stamped
from ownseen.torn import tickets_weave
from ownseen.watches import Spoils, lets
from ownseen.weaves import order_of_all

from tests.helper import (
    GREAT, NO_NUMBERS, NO_OBJECTS, SeenTest, by_deals, deals_with, ended, free_deals, great_kind, late_spoilt, late_stamps,
    late_states, let_only, plain_by_stamps, plain_holds, plain_left, ready_deals, right_along, seen_pairs, some_histories, stamped_rows,
    strict,
)
from tests.test_earlies import opened_rows

COIN = Kind(["take"], ["done", "short"], 2, 1, [(0, 0, 1, 0), (1, 0, 0, 0)])
KINDS = (COIN, shelf(2, 0), purse(3, 1), counter(3), chest(2))
ROWS = stamped_rows(151, some_histories(152, 450, deals=(0, 1, 2, 5, 7, 11), kinds=KINDS), late=0.8)
OPENED = opened_rows(153, ROWS)


def are_late(events, stamps):
    return plain_holds(events, plain_by_stamps(deals_with(events, "yes"), by_deals(events, stamps)))


def all_late_stamps(events):
    """For each order that holds what is seen the stamps of all deals that bring it out."""
    deals = sorted({event[1] for event in events})
    ended_ones = deals_with(events, "yes")
    for order in permutations(ended_ones):
        if plain_holds(events, order):
            yield [order.index(deal) if deal in order else 50 + deal for deal in deals]


class KeepsLateTest(SeenTest):
    def test_against_the_words(self):
        counts = {}
        for kind, events, stamps in ROWS:
            stamped = Stamped(History(kind, events), stamps)
            if not are_late(events, stamps):
                for function in (keeps_late, torn_late):
                    self.assert_raises(Misfit("stamps"), function, stamped)
                for deal in range(12):
                    self.assert_raises(Misfit("stamps"), lets_late, stamped, deal)
                self.assertIs(right_late(stamped), False)
                counts["not late"] = counts.get("not late", 0) + 1
                continue
            order = plain_by_stamps(deals_with(events, "yes"), by_deals(events, stamps))
            left = plain_left(kind, events, order)
            told = keeps_late(stamped)
            self.assertEqual((type(told), strict(told.order)), (Breaks if left is None else Fits, strict(order)))
            self.assertEqual(keeps_late(stamped=stamped), told)
            counts[bool(told)] = counts.get(bool(told), 0) + 1
        self.assertGreater(min(counts.values()), 20)
        self.assertEqual(len(counts), 3)

    def test_the_own_rule_is_the_late_rule_with_all_late_stamps(self):
        counts = [0, 0]
        for kind, events, _ in ROWS[:200]:
            history = History(kind, events)
            if len(history.ended) < 5:
                kept = all(keeps_late(Stamped(history, stamps)) for stamps in all_late_stamps(events))
                self.assertIs(kept, bool(keeps(history)))
                counts[kept] += 1
        self.assertGreater(min(counts), 20)

    def test_more_than_seven_deals(self):
        history = History(COIN, ended({deal: [(0, 0)] if deal == 3 else [(0, 1)] for deal in range(12)}))
        order = (3, 0, 1, 2, 4, 5, 6, 7, 8, 9, 10, 11)
        self.assertEqual(keeps_late(Stamped(history, [1, 2, 3, -GREAT, 5, 6, 7, 8, 9, 10, 11, GREAT])), Fits(order))


class LetsLateTest(SeenTest):
    def test_against_all_lots_and_orders(self):
        counts = {}
        for kind, events, stamps in OPENED:
            stamped, by_deal = Stamped(History(kind, events), stamps), by_deals(events, stamps)
            if not are_late(events, stamps):
                continue
            free = free_deals(events)
            for deal in range(12):
                if deal not in free:
                    self.assert_raises(BadNumber("deal"), lets_late, stamped, deal)
                    continue
                spoilt, told = late_spoilt(kind, events, by_deal, deal), lets_late(stamped, deal)
                wanted = Spoils(*spoilt) if spoilt else LateLets(late_states(kind, events, by_deal, deal))
                self.assertEqual((told, strict(told.parts)), (wanted, strict(wanted.parts)))
                self.assertEqual(lets_late(stamped=stamped, deal=deal), told)
                place = (bool(told), bool(ready_deals(events)), not told and min(len(told.deals), 2))
                counts[place] = counts.get(place, 0) + 1
        for place in ((True, True, False), (True, False, False), (False, False, 1), (False, True, 1), (False, True, 2)):
            self.assertGreater(counts.get(place, 0), 5, place)

    def test_let_by_the_own_rule_is_let_with_all_late_stamps(self):
        counts = [0, 0]
        for kind, events, _ in OPENED[:250]:
            history = History(kind, events)
            for deal in free_deals(events):
                let = all(bool(lets_late(Stamped(history, stamps), deal)) for stamps in all_late_stamps(events))
                self.assertIs(let, bool(lets(history, deal)))
                counts[let] += 1
        self.assertGreater(min(counts), 30)

    def test_the_stamps_of_open_deals_mean_nothing(self):
        dice = random.Random(154)
        for kind, events, stamps in OPENED[:200]:
            if not are_late(events, stamps):
                continue
            history, by_deal = History(kind, events), by_deals(events, stamps)
            others = [by_deal[deal] if deal in history.ended else GREAT * 10 + dice.randrange(1000) * 12 + deal for deal in history.deals]
            for deal in free_deals(events):
                self.assertEqual(lets_late(Stamped(history, others), deal), lets_late(Stamped(history, stamps), deal))

    def test_stamps_settle_what_nobody_saw(self):
        # Two things in a line, and neither deal saw the other: by stamps one is the first.
        events = ended({0: [(0, 0)], 1: [(1, 0)]})
        for answer in (3, 4):
            taken = History(line(2, 2), events + [("ask", 2, 2), ("answer", 2, answer)])
            self.assertIs(bool(lets(taken, 2)), False)
            self.assertIs(bool(lets_late(Stamped(taken, [1, 2, 0]), 2)), answer == 3)
            self.assertIs(bool(lets_late(Stamped(taken, [2, 1, 0]), 2)), answer == 4)

    def test_seven_deals_and_eight(self):
        for many in (6, 7):
            ready = [("ready", deal) for deal in range(many)]
            events = ready + [("yes", deal) for deal in range(0, many, 2)] + [("ask", 9, 0), ("answer", 9, 0), ("no", 10)]
            stamped = Stamped(History(COIN, events), list(range(many + 2)))
            if many == 6:
                self.assertEqual(len(lets_late(stamped, 9).rooms[-1][0]), 7)
            else:
                self.assert_raises(TooMany("deals", 7), lets_late, stamped, 9)
                self.assert_raises(BadNumber("deal"), lets_late, stamped, 10)

    def test_errors(self):
        events = [("ask", 0, 0), ("answer", 0, 0), ("ready", 1), ("ask", 4, 0), ("ready", 6), ("yes", 6), ("no", 7)]
        stamped = Stamped(History(COIN, events), [5, 4, 3, 2, 1])
        values = ("stamped", NO_OBJECTS + (COIN, stamped.history, Keeps([])), BadValue("stamped"))
        numbers = ("deal", NO_NUMBERS + (1, 4, 6, 7, 2, 11, 12, -1, 10 ** 60), BadNumber("deal"))
        turned = Stamped(History(COIN, [(word, deal) for deal in (0, 1) for word in ("ready", "yes")]), [1, 0])
        self.assert_faults(lets_late, {"stamped": stamped, "deal": 0}, [values, numbers])
        self.assert_faults(lets_late, {"stamped": stamped, "deal": 0}, [("stamped", [turned], Misfit("stamps")), numbers])
        for function in (keeps_late, right_late):
            self.assert_faults(function, {"stamped": stamped}, [values])
        self.assert_faults(torn_late, {"stamped": Stamped(History(COIN, ended({0: [(0, 1)]})), [1])}, [values])

    def test_at_the_greatest_size(self):
        dice, kind = random.Random(155), great_kind()
        works = {deal: [(dice.randrange(5), dice.randrange(2)) for _ in range(7)] for deal in range(7)}
        events = ended(works, sure=False)[:-1]
        told = self.assert_short(lets_late, Stamped(History(kind, events), dice.sample(range(50), 7)), 6)
        self.assertEqual(len(told.rooms), 128)
        coins = History(purse(8, 6), ended({deal: [(2, 0)] for deal in range(7)}, sure=False)[:-1])
        told = self.assert_short(lets_late, Stamped(coins, list(range(7))), 6)
        self.assertEqual(told, Spoils(list(range(7)), list(range(7))))


class RightLateTest(SeenTest):
    def test_against_all_lots_and_orders_at_each_ready(self):
        counts = {}
        for kind, events, stamps in ROWS:
            by_deal = by_deals(events, stamps)
            for some in (events, let_only(kind, events, by_deal, late_spoilt)):
                mine = [by_deal[deal] for deal in sorted({event[1] for event in some})]
                stamped, late = Stamped(History(kind, some), mine), are_late(some, mine)
                wanted = late and right_along(kind, some, by_deal, late_spoilt)
                self.assertIs(right_late(stamped), wanted)
                self.assertIs(right_late(stamped=stamped), wanted)
                counts[late, wanted] = counts.get((late, wanted), 0) + 1
                if wanted:
                    self.assertTrue(keeps_late(stamped))
        self.assertGreater(min(counts.values()), 30)
        self.assertEqual(len(counts), 3)

    def test_deals_that_did_nothing_and_those_called_off_later(self):
        events = [("ready", 0), ("yes", 0), ("ready", 5), ("ask", 1, 0), ("answer", 1, 0), ("ready", 1), ("ready", 7)]
        self.assertIs(right_late(Stamped(History(COIN, events), [4, 3, 2, 1])), True)
        self.assertIs(right_late(Stamped(History(COIN, []), [])), True)
        off = [("ask", 0, 0), ("answer", 0, 1), ("ready", 0), ("no", 0)]
        self.assertIs(right_late(Stamped(History(COIN, off), [1])), False)
        self.assertIs(right_late(Stamped(History(COIN, off[:2] + off[3:]), [1])), True)

    def test_seven_readies_and_eight(self):
        for many in (7, 8):
            for end in ("yes", "no"):
                events = [(word, deal) for deal in range(many) for word in ("ready", end)] + [("no", 9), ("ask", 10, 0)]
                for stamps in (list(range(many + 2)), list(range(many + 2, 0, -1))):
                    stamped = Stamped(History(COIN, events), stamps)
                    if many == 7:
                        self.assertIs(right_late(stamped), end == "no" or stamps[0] == 0)
                    else:
                        self.assert_raises(TooMany("deals", 7), right_late, stamped)

    def test_at_the_greatest_size(self):
        dice, kind = random.Random(156), great_kind()
        works = {deal: [(dice.randrange(5), dice.randrange(2)) for _ in range(7)] for deal in range(7)}
        stamped = Stamped(History(kind, ended(works, sure=False)), list(range(7)))
        self.assertIs(self.assert_short(right_late, stamped), True)


class TornLateTest(SeenTest):
    def test_against_the_words(self):
        counts = [0, 0]
        for kind, events, stamps in ROWS:
            if not are_late(events, stamps):
                continue
            stamped = Stamped(History(kind, events), stamps)
            order = plain_by_stamps(deals_with(events, "yes"), by_deals(events, stamps))
            fitting = plain_left(kind, events, order) is not None
            counts[fitting] += 1
            if fitting:
                self.assert_raises(Impossible(Fits(order)), torn_late, stamped)
                continue
            told = torn_late(stamped)
            self.assertEqual(told, StampTorn(tickets_weave(stamped.history, order), stamps))
            self.assertEqual(told.weave.deals, stamped.history.deals)
            self.assertFalse(order_of_all(told.weave))
            self.assertEqual(torn_late(stamped=stamped), told)
        self.assertGreater(min(counts), 60)

    def test_eight_deals(self):
        for many in (7, 8):
            for works in ([(0, 0)], [(0, 1)], []):
                stamped = Stamped(History(COIN, ended({deal: works for deal in range(many)})), list(range(many)))
                if many == 8:
                    self.assert_raises(TooMany("deals", 7), torn_late, stamped)
                elif works:
                    self.assertEqual(torn_late(stamped).weave, tickets_weave(stamped.history, list(range(7))))
                else:
                    self.assert_raises(Impossible(Fits(list(range(7)))), torn_late, stamped)
        turned = [(word, deal) for deal in range(8) for word in ("ready", "yes")]
        self.assert_raises(Misfit("stamps"), torn_late, Stamped(History(COIN, turned), list(range(8, 0, -1))))

    def test_late_stamps_of_all_sizes(self):
        dice = random.Random(157)
        events = ended({0: [(0, 0)], 1: [(0, 1)], 2: [(0, 1)]})
        for _ in range(40):
            stamps = late_stamps(dice, seen_pairs(events), (0, 1, 2))
            stamped = Stamped(History(COIN, events), stamps)
            self.assertIs(bool(keeps_late(stamped)), stamps[0] == min(stamps))


if __name__ == "__main__":
    unittest.main()
