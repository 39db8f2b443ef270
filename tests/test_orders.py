"""Orders of a history, held against a listing of all orders; and the papers about them."""

import random
import unittest
from itertools import permutations

from ownseen.check_orders import shows_order
from ownseen.errors import BadOrder, BadValue, TooMany
from ownseen.histories import History
from ownseen.kinds import Kind
from ownseen.makers import purse, shelf
from ownseen.orders import Bars, Fits, fits, holds_seen, left_by, order_for
from ownseen.papers import Denial, Paper

from tests.helper import (
    NO_OBJECTS, NO_ROWS, SeenTest, bends, ended, great_kind, listed, plain_bars, plain_holds, plain_left,
    some_histories, strict,
)

COIN = Kind(["take"], ["done", "short"], 2, 1, [(0, 0, 1, 0), (1, 0, 0, 0)])
KINDS = (COIN, shelf(2, 0), purse(2, 1))


HISTORIES = some_histories(41, 250, kinds=KINDS)


class OrdersTest(SeenTest):
    def test_against_all_orders(self):
        fitting, barred = 0, 0
        for kind, events in HISTORIES:
            history = History(kind, events)
            good = []
            for order in permutations(history.ended):
                left = plain_left(kind, events, order)
                self.assertEqual(left_by(history, order), left)
                self.assertEqual(left_by(history, list(order)), left)
                self.assertIs(fits(history, order), left is not None)
                self.assertIs(holds_seen(history, order), plain_holds(events, order))
                good += [order] if left is not None else []
            wanted = Fits(good[0]) if good else Bars(plain_bars(kind, events))
            self.assertEqual(order_for(history), wanted)
            self.assertEqual(strict(order_for(history).parts), strict(wanted.parts))
            self.assertIs(shows_order(history, order_for(history)), True)
            fitting, barred = fitting + bool(good and good[0] != history.ended), barred + (not good)
        self.assertGreater(fitting, 5)
        self.assertGreater(barred, 20)

    def test_by_name(self):
        history = History(COIN, ended({0: [(0, 0)], 1: [(0, 1)]}))
        self.assertIs(holds_seen(history=history, order=[1, 0]), True)
        self.assertEqual(left_by(history=history, order=[0, 1]), 0)
        self.assertIs(fits(history=history, order=[1, 0]), False)
        self.assertEqual(order_for(history=history).order, (0, 1))
        self.assertIs(shows_order(history=history, value=Fits([0, 1])), True)

    def test_what_open_deals_and_those_called_off_did_counts_nowhere(self):
        events = ended({3: [(0, 0)], 1: [(0, 0)], 2: [(0, 0)]}, sure=False)
        one = History(COIN, events + [("no", 3), ("yes", 2)])
        self.assertEqual((order_for(one), left_by(one, [2])), (Fits([2]), 0))
        self.assertEqual(order_for(History(COIN, events)), Fits([]))
        self.assertEqual(left_by(History(COIN, events), ()), 1)

    def test_deals_that_did_nothing(self):
        history = History(COIN, [("ready", 5), ("yes", 5), ("ready", 3), ("yes", 3)])
        self.assertEqual(order_for(history), Fits([3, 5]))
        self.assertIs(holds_seen(history, [3, 5]), False)

    def test_states_that_are_left(self):
        history = History(shelf(3, 0), ended({0: [(1, 0)], 1: [(2, 0)]}))
        self.assertEqual([left_by(history, order) for order in ((0, 1), (1, 0))], [2, 1])
        empty = History(shelf(3, 2), [])
        self.assertEqual((left_by(empty, []), fits(empty, ()), holds_seen(empty, [])), (2, True, True))

    def test_seven_deals_and_eight(self):
        for many in (7, 8, 12):
            history = History(COIN, ended({deal: [(0, 1)] if deal else [(0, 0)] for deal in range(many)}))
            order = tuple(range(many))
            self.assertIs(fits(history, order), True)
            self.assertIs(fits(history, order[::-1]), False)
            self.assertIs(holds_seen(history, order[::-1]), True)
            if many == 7:
                self.assertEqual(order_for(history), Fits(order))
                self.assertIs(shows_order(history, Fits(order)), True)
            else:
                self.assert_raises(TooMany("deals", 7), order_for, history)
                for value in (Fits(order), None):
                    self.assert_raises(TooMany("deals", 7), shows_order, history, value)

    def test_wrong_values(self):
        history = History(COIN, ended({0: [(0, 0)], 1: [(0, 1)], 4: []}) + [("ready", 2), ("no", 3)])
        histories = ("history", NO_OBJECTS + (COIN,), BadValue("history"))
        orders = NO_ROWS + ([], [0, 1], [0, 1, 4, 4], [0, 1, 1], [0, 1, 2], [0, 1, 2, 4], [0, 1, 3], [0, 1, 5], [0, 1, None])
        orders += ([False, 1, 4], [0, True, 4], [0.0, 1, 4], ["0", 1, 4], [[0], 1, 4], [[0, 1, 4]], {0: 0, 1: 1, 4: 4}, {0, 1, 4})
        for function in (holds_seen, left_by, fits):
            self.assert_faults(function, {"history": history, "order": [4, 1, 0]}, [
                histories, ("order", orders, BadOrder("order")),
            ])
        self.assert_faults(order_for, {"history": history}, [histories])
        self.assert_faults(shows_order, {"history": history, "value": None}, [histories])

    def test_what_is_passed_is_not_changed(self):
        history = History(COIN, ended({0: [(0, 0)], 1: [(0, 1)]}))
        order = [1, 0]
        holds_seen(history, order), left_by(history, order), fits(history, order)
        paper = Fits(order)
        order[0] = 7
        self.assertEqual((order, paper.order), ([7, 0], (1, 0)))


class ShowsOrderTest(SeenTest):
    def test_any_order_that_fits(self):
        for kind, events in HISTORIES[:120]:
            history = History(kind, events)
            for order in permutations(history.ended):
                wanted = plain_left(kind, events, order) is not None
                self.assertIs(shows_order(history, Fits(order)), wanted)
                self.assertIs(shows_order(history, Fits(list(order))), wanted)
                self.assertIs(shows_order(history, Bars(order)), False)
                self.assertIs(shows_order(history, Bars([order])), [order] == list(plain_bars(kind, events)) != [()])

    def test_bent_papers(self):
        checked = 0
        for kind, events in HISTORIES:
            history, right = History(kind, events), order_for(History(kind, events))
            if len(right.parts[0]) > 8:
                continue
            for bent in bends(right.parts[0]):
                same = strict(bent) == strict(right.parts[0])
                self.assertIs(shows_order(history, Bars(bent)), same and not right)
                wanted = strict(bent) in [strict(order) for order in permutations(history.ended)]
                wanted = wanted and plain_left(kind, events, bent) is not None
                self.assertIs(shows_order(history, Fits(bent)), wanted)
                checked += 1
            if not right:
                self.assertIs(shows_order(history, Bars(listed(right.beginnings))), True)
                self.assertIs(shows_order(history, Bars(right.beginnings[::-1])), len(right.beginnings) == 1)
        self.assertGreater(checked, 1000)

    def test_longer_beginnings_are_not_the_shortest(self):
        history = History(COIN, ended({0: [(0, 0)], 1: [(0, 0)]}))
        self.assertEqual(order_for(history), Bars([[0, 1], [1, 0]]))
        bare = History(COIN, ended({0: [(0, 1)], 1: [(0, 1)]}))
        self.assertEqual(order_for(bare), Bars([[0], [1]]))
        self.assertIs(shows_order(bare, Bars([[0, 1], [1, 0]])), False)
        self.assertIs(shows_order(bare, Bars([[0], [1, 0]])), False)
        self.assertIs(shows_order(bare, Bars([[0], [0, 1], [1]])), False)
        self.assertIs(shows_order(bare, Bars([[]])), False)

    def test_true_is_no_number(self):
        history = History(COIN, ended({0: [(0, 0)], 1: [(0, 1)]}))
        self.assertEqual(Fits([False, True]), Fits([0, 1]))
        self.assertIs(shows_order(history, Fits([False, True])), False)
        bare = History(COIN, ended({0: [(0, 1)], 1: [(0, 1)]}))
        self.assertIs(shows_order(bare, Bars([[0], [True]])), False)

    def test_any_value(self):
        history = History(COIN, ended({0: [(0, 0)], 1: [(0, 1)]}))
        bare = History(COIN, ended({0: [(0, 1)]}))
        for told in (history, bare, History(COIN, [])):
            for value in NO_OBJECTS + NO_ROWS + ([0, 1], Paper("fits", [0, 1]), Denial("bars", [[0]]), Fits, Bars):
                self.assertIs(shows_order(told, value), False)
        for part in NO_ROWS + NO_OBJECTS[:10] + ([None], ["0"], [{}], [[]], [[None]], [["0"]], [[[0]]]):
            if part != []:
                self.assertIs(shows_order(bare, Fits(part)), False)
            self.assertIs(shows_order(history, Fits(part)), False)
            self.assertIs(shows_order(bare, Bars(part)), False)
        self.assertIs(shows_order(bare, Bars([[0]])), True)
        self.assertIs(shows_order(bare, Bars(((0,),))), True)
        self.assertIs(shows_order(History(COIN, []), Fits([])), True)
        self.assertIs(shows_order(History(COIN, []), Bars([])), False)


class GreatestSizeTest(SeenTest):
    def test_all_5040_orders_fail_at_their_end(self):
        history = History(purse(8, 6), ended({deal: [(2, 0)] for deal in range(7)}))
        told = self.assert_short(order_for, history)
        self.assertEqual(told.beginnings, tuple(permutations(range(7))))
        self.assertIs(self.assert_short(shows_order, history, told), True)
        self.assertIs(self.assert_short(shows_order, history, Bars(told.beginnings[:-1])), False)

    def test_120_events_of_60_states(self):
        dice = random.Random(42)
        kind = great_kind()
        works = {deal: [(dice.randrange(5), dice.randrange(2)) for _ in range(7 if deal else 9)] for deal in range(7)}
        history = History(kind, (ended(works) + [("ready", 9), ("no", 9)])[:120])
        self.assertEqual(len(history.events), 118)
        told = self.assert_short(order_for, history)
        self.assertEqual(told, Fits((0, 1, 2, 3, 4, 5, 6)))
        self.assertEqual(self.assert_short(left_by, history, told.order), plain_left(kind, history.events, told.order))


if __name__ == "__main__":
    unittest.main()
