"""Papers about stamped histories: right ones and bent ones, held against what the test itself says of them."""

import random
import unittest
from itertools import permutations

from ownseen.check_stamps import (
    shows_apart, shows_early, shows_joined_by, shows_late, shows_lets_early, shows_lets_late, shows_torn_early, shows_torn_late,
)
from ownseen.earlies import Apart, EarlyLets, apart, keeps_early, lets_early, torn_early
from ownseen.errors import BadNumber, BadStamps, BadValue, Misfit, SeenError, TooMany
from ownseen.histories import History
from ownseen.joins import Lax
from ownseen.kinds import Kind
from ownseen.lates import LateLets, keeps_late, lets_late, torn_late
from ownseen.makers import chest, counter, purse, shelf, tickets
from ownseen.orders import Fits
from ownseen.own import Breaks, Keeps
from ownseen.papers import Denial, Paper
from ownseen.stairs import StampTorn, stair, stair_weave
from ownseen.stamps import Stamped, joined_by
from ownseen.torn import Torn
from ownseen.watches import Lets, Spoils
from ownseen.weaves import Weave, at

from tests.helper import (
    NO_NUMBERS, NO_OBJECTS, NO_ROWS, SeenTest, are_plain_rooms, bends, by_deals, deals_with, early_spoilt, early_states, ended,
    free_deals, is_plain_lot, is_plain_order, late_closed, late_orders, late_spoilt, late_states, listed, lots_with,
    plain_break, plain_by_stamps, plain_left, play, right_along, seen_pairs, some_histories, some_stamps, stamped_rows, strict,
    wider, works_by,
)
from tests.test_check_torn import bent_weaves, plain_events_at
from tests.test_earlies import opened_rows
from tests.test_joins import some_weaves
from tests.test_lates import are_late
from tests.test_stamps import NO_STAMPS

COIN = Kind(["take"], ["done", "short"], 2, 1, [(0, 0, 1, 0), (1, 0, 0, 0)])
KINDS = (COIN, shelf(2, 0), purse(3, 1), counter(3), chest(2))
ROWS = stamped_rows(161, some_histories(162, 260, deals=(0, 1, 2, 5, 11), kinds=KINDS), late=0.8)
OPENED = opened_rows(163, ROWS)
OTHERS = NO_OBJECTS + NO_ROWS + (Keeps([]), Lets([((), (1,))]), Paper("fits", [0]), Denial("breaks", [0]), Fits, Breaks, Spoils)


class ShowsKeptTest(SeenTest):
    def test_just_what_is_returned(self):
        for kind, events, stamps in ROWS:
            stamped = Stamped(History(kind, events), stamps)
            for shows, tells, fine in ((shows_early, keeps_early, True), (shows_late, keeps_late, are_late(events, stamps))):
                if not fine:
                    self.assert_raises(Misfit("stamps"), shows, stamped, Fits([]))
                    continue
                told = tells(stamped)
                for value in (told, type(told)(list(told.order))):
                    self.assertIs(shows(stamped, value), True)
                    self.assertIs(shows(stamped=stamped, value=value), True)
                for order in permutations(told.order):
                    for made in (Fits, Breaks):
                        self.assertIs(shows(stamped, made(order)), made is type(told) and order == told.order)
                for bent in bends(told.order):
                    self.assertIs(shows(stamped, type(told)(bent)), strict(bent) == strict(told.order))

    def test_any_value_and_wrong_arguments(self):
        stamped = Stamped(History(COIN, ended({0: [], 1: []})), [1, 2])
        for shows in (shows_early, shows_late):
            for value in OTHERS:
                self.assertIs(shows(stamped, value), False)
                self.assertIs(shows(stamped, Fits(value)), False)
            self.assertIs(shows(stamped, Fits([0, 1])), True)
            self.assertIs(shows(stamped, Fits([False, True])), False)
            self.assertIs(shows(stamped, Fits([0, True])), False)
            self.assert_faults(shows, {"stamped": stamped, "value": None}, [
                ("stamped", NO_OBJECTS + (COIN, stamped.history), BadValue("stamped")),
            ])


def plain_early_rooms(kind, events, by_deal, deal, rooms):
    """Whether any value has a lot of states ahead of each deal, as the words say."""
    ended_ones, ready = deals_with(events, "yes"), lots_with(events, deal)[-1]
    row = plain_by_stamps(ended_ones + ready, by_deal)
    if not isinstance(rooms, (list, tuple)) or len(rooms) != len(row) + 1:
        return False
    if not all(is_plain_lot(room, kind.states) for room in rooms) or kind.first not in rooms[0]:
        return False
    for place, other in enumerate(row):
        for state in rooms[place]:
            if play(kind, state, works_by(events, other)) not in rooms[place + 1]:
                return False
            if other in ready and other != deal and state not in rooms[place + 1]:
                return False
    return True


class ShowsLetsEarlyTest(SeenTest):
    def test_rooms(self):
        dice, counts = random.Random(164), [0, 0]
        for kind, events, stamps in OPENED:
            stamped, by_deal = Stamped(History(kind, events), stamps), by_deals(events, stamps)
            for deal in free_deals(events):
                told = lets_early(stamped, deal)
                self.assertIs(shows_lets_early(stamped, deal, told), True)
                self.assertIs(shows_lets_early(stamped=stamped, deal=deal, value=type(told)(*listed(told.parts))), True)
                rooms = told.rooms if told else [(kind.first,)] * (len(lots_with(events, deal)[-1] + deals_with(events, "yes")) + 1)
                some = [[room for _, room in wider(dice, [(0, room) for room in rooms], kind.states)] for _ in range(5)]
                for value in some + [[list(range(kind.states))] * len(rooms)] + list(bends(rooms) if told else ()):
                    wanted = plain_early_rooms(kind, events, by_deal, deal, value)
                    self.assertIs(shows_lets_early(stamped, deal, EarlyLets(value)), wanted)
                    counts[wanted] += 1
        self.assertGreater(min(counts), 100)

    def test_spoils(self):
        counts = [0, 0]
        for kind, events, stamps in OPENED:
            stamped, by_deal = Stamped(History(kind, events), stamps), by_deals(events, stamps)
            for deal in free_deals(events):
                lots, told = lots_with(events, deal), lets_early(stamped, deal)
                for lot in lots + [tuple(other for other in lot if other != deal) for lot in lots] + [lots[-1] + (11,)]:
                    right = plain_by_stamps(deals_with(events, "yes") + lot, {**by_deal, 11: by_deal.get(11, 0)})
                    for order in (right, right[::-1], tuple(sorted(right)), right[1:], right + right[:1]):
                        wanted = lot in lots and order == right and plain_left(kind, events, right) is None
                        self.assertIs(shows_lets_early(stamped, deal, Spoils(lot, order)), wanted)
                        counts[wanted] += 1
                if not told:
                    for bent in bends(told.deals):
                        self.assertIs(shows_lets_early(stamped, deal, Spoils(bent, told.order)), strict(bent) == strict(told.deals))
                    for bent in bends(told.order):
                        self.assertIs(shows_lets_early(stamped, deal, Spoils(told.deals, bent)), strict(bent) == strict(told.order))
        self.assertGreater(min(counts), 60)

    def test_errors(self):
        check_let_errors(self, shows_lets_early, EarlyLets)


class ShowsLetsLateTest(SeenTest):
    def test_rooms(self):
        dice, counts = random.Random(165), [0, 0]
        for kind, events, stamps in OPENED:
            stamped, by_deal = Stamped(History(kind, events), stamps), by_deals(events, stamps)
            if not are_late(events, stamps):
                self.assert_raises(Misfit("stamps"), shows_lets_late, stamped, None, None)
                continue
            for deal in free_deals(events):
                told, closed = lets_late(stamped, deal), late_closed(events, by_deal, deal)
                self.assertIs(shows_lets_late(stamped, deal, told), True)
                self.assertIs(shows_lets_late(stamped=stamped, deal=deal, value=type(told)(*listed(told.parts))), True)
                rooms = told.rooms if told else [(lot, (kind.first,)) for lot in closed]
                some = [wider(dice, rooms, kind.states) for _ in range(5)] + [[(lot, range_list(kind)) for lot in closed]]
                for value in some + list(bends(rooms) if told and len(rooms) < 7 else ()):
                    wanted = are_plain_rooms(kind, events, closed, value)
                    self.assertIs(shows_lets_late(stamped, deal, LateLets(value)), wanted)
                    counts[wanted] += 1
        self.assertGreater(min(counts), 100)

    def test_spoils(self):
        counts = [0, 0]
        for kind, events, stamps in OPENED:
            stamped, by_deal = Stamped(History(kind, events), stamps), by_deals(events, stamps)
            if not are_late(events, stamps):
                continue
            for deal in free_deals(events):
                lots, told = lots_with(events, deal), lets_late(stamped, deal)
                for lot in lots + [tuple(other for other in lot if other != deal) for lot in lots]:
                    orders = late_orders(events, by_deal, deal, lot) if lot in lots else []
                    for order in list(permutations(sorted(deals_with(events, "yes") + lot)))[:24]:
                        wanted = order in orders and plain_left(kind, events, order) is None
                        self.assertIs(shows_lets_late(stamped, deal, Spoils(lot, order)), wanted)
                        counts[wanted] += 1
                if not told:
                    orders = late_orders(events, by_deal, deal, told.deals)
                    for bent in bends(told.deals):
                        self.assertIs(shows_lets_late(stamped, deal, Spoils(bent, told.order)), strict(bent) == strict(told.deals))
                    for bent in bends(told.order):
                        wanted = any(strict(bent) == strict(order) for order in orders) and plain_left(kind, events, bent) is None
                        self.assertIs(shows_lets_late(stamped, deal, Spoils(told.deals, bent)), wanted)
        self.assertGreater(min(counts), 60)

    def test_errors(self):
        check_let_errors(self, shows_lets_late, LateLets)
        ready = [(word, deal) for deal in range(7) for word in ("ready", "yes")] + [("ask", 9, 0), ("answer", 9, 0)]
        many = Stamped(History(COIN, ready), list(range(8)))
        self.assert_raises(TooMany("deals", 7), shows_lets_late, many, 9, None)
        self.assertIs(shows_lets_early(many, 9, EarlyLets([[1]] * 8 + [[0]])), True)


def range_list(kind):
    return list(range(kind.states))


def check_let_errors(test, shows, made):
    events = [("ask", 0, 0), ("answer", 0, 0), ("ready", 1), ("ask", 4, 0), ("ready", 6), ("yes", 6), ("no", 7)]
    stamped = Stamped(History(COIN, events), [5, 4, 3, 2, 1])
    for value in OTHERS:
        test.assertIs(shows(stamped, 0, value), False)
        test.assertIs(shows(stamped, 0, made(value)), False)
        test.assertIs(shows(stamped, 0, Spoils(value, value)), False)
        test.assertIs(shows(stamped, 0, Spoils([0], value)), False)
    test.assert_faults(shows, {"stamped": stamped, "deal": 0, "value": None}, [
        ("stamped", NO_OBJECTS + (COIN, stamped.history), BadValue("stamped")),
        ("deal", NO_NUMBERS + (1, 4, 6, 7, 2, 11, 12, -1), BadNumber("deal")),
    ])


class ShowsJoinedByTest(SeenTest):
    def test_all_papers(self):
        dice, counts = random.Random(166), {}
        for kinds, events in some_weaves(167, 300):
            weave = Weave(kinds, events)
            stamps = sorted(some_stamps(dice, len(weave.deals))) if dice.random() < 0.5 else some_stamps(dice, len(weave.deals))
            by_deal, told = dict(zip(weave.deals, stamps)), joined_by(weave, stamps)
            self.assertIs(shows_joined_by(weave, stamps, told), True)
            self.assertIs(shows_joined_by(weave=weave, stamps=tuple(stamps), value=told), True)
            papers = [(Fits(order), told == Fits(order)) for order in permutations(weave.ended)]
            for house, kind in enumerate(kinds):
                here = list(at(weave, house).events)
                right = plain_by_stamps(deals_with(here, "yes"), by_deal)
                stuck = plain_left(kind, here, right) is None
                papers += [(Lax(house, list(order)), stuck and order == right) for order in permutations(right)]
                papers += [(Lax(house, bent), stuck and strict(bent) == strict(right)) for bent in bends(right)]
                papers += [(Lax(bool(house), right), False), (Lax(-1, right), False), (Lax(len(kinds), right), False)]
            papers += [(type(told)(*told.parts[:-1], bent), strict(bent) == strict(told.order)) for bent in bends(told.order)]
            for paper, wanted in papers:
                self.assertIs(shows_joined_by(weave, stamps, paper), wanted)
                counts[paper.word, wanted] = counts.get((paper.word, wanted), 0) + 1
        self.assertGreater(min(counts.values()), 30)
        self.assertEqual(len(counts), 4)

    def test_any_value_and_wrong_arguments(self):
        weave = Weave([COIN, COIN], [("ready", 0, 3), ("no", 1, 5)])
        for value in OTHERS:
            self.assertIs(shows_joined_by(weave, [1, 2], value), False)
            self.assertIs(shows_joined_by(weave, [1, 2], Lax(value, value)), False)
            if value not in ([], ()):
                self.assertIs(shows_joined_by(weave, [1, 2], Fits(value)), False)
        self.assert_faults(shows_joined_by, {"weave": weave, "stamps": [4, 2], "value": None}, [
            ("weave", NO_OBJECTS + (COIN, History(COIN, [])), BadValue("weave")),
            ("stamps", NO_STAMPS, BadStamps("stamps")),
        ])
        asks = [(word, 1, 5, 0) for _ in range(59) for word in ("ask", "answer")] + [("ask", 1, 5, 0)]
        long = Weave([COIN, COIN], asks + [("ready", 0, 0), ("ready", 1, 0), ("yes", 0, 0)])
        self.assert_raises(TooMany("events", 120), shows_joined_by, long, [1, 2], None)


def plain_stamp_torn(kind, events, stamps, weave, told_stamps, is_right):
    """Whether a weave and stamps are a right StampTorn; is_right tells of the second house."""
    if not isinstance(weave, Weave) or len(weave.kinds) != 2 or strict(told_stamps) != strict(stamps):
        return False
    first, second = plain_events_at(weave, 0), plain_events_at(weave, 1)
    deals = sorted({event[1] for event in events})
    if max(len(first), len(second)) > 120 or weave.kinds[0] != kind or first != events or list(weave.deals) != deals:
        return False
    if len(deals_with(second, "ready")) > 7 or not is_right(weave.kinds[1], second, dict(zip(deals, stamps))):
        return False
    return fits_nowhere(weave, (first, second))


def fits_nowhere(weave, rows):
    """Whether no order of a weave fits at both houses, whose events are told."""
    return not any(
        all(plain_left(kind, row, [deal for deal in order if ("yes", deal) in row]) is not None for kind, row in zip(weave.kinds, rows))
        for order in permutations(weave.ended)
    )


def is_right_early(kind, events, by_deal):
    return right_along(kind, events, by_deal, early_spoilt)


def is_right_late(kind, events, by_deal):
    mine = [by_deal[deal] for deal in sorted({event[1] for event in events})]
    return are_late(events, mine) and right_along(kind, events, by_deal, late_spoilt)


class ShowsStampTornTest(SeenTest):
    def check(self, shows, tells, is_right, needs_late):
        dice, counts = random.Random(168), [0, 0]
        for kind, events, stamps in ROWS[:200]:
            stamped = Stamped(History(kind, events), stamps)
            if needs_late and not are_late(events, stamps):
                self.assert_raises(Misfit("stamps"), shows, stamped, None)
                continue
            order = plain_by_stamps(deals_with(events, "yes"), by_deals(events, stamps))
            if not order or plain_left(kind, events, order) is not None:
                if order:
                    self.assertIs(shows(stamped, StampTorn(stair_weave(stamped), stamps)), False)
                continue
            told = tells(stamped)
            self.assertIs(shows(stamped, told), True)
            self.assertIs(shows(stamped=stamped, value=StampTorn(told.weave, list(told.stamps))), True)
            for weave in bent_weaves(dice, told.weave, 10):
                wanted = plain_stamp_torn(kind, events, stamps, weave, stamps, is_right)
                self.assertIs(shows(stamped, StampTorn(weave, stamps)), wanted)
                counts[wanted] += 1
            for bent in list(bends(told.stamps)) + [[stamp + 1 for stamp in stamps]]:
                self.assertIs(shows(stamped, StampTorn(told.weave, bent)), strict(bent) == strict(stamps))
        self.assertGreater(min(counts), 60)

    def test_early(self):
        self.check(shows_torn_early, torn_early, is_right_early, False)

    def test_late(self):
        self.check(shows_torn_late, torn_late, is_right_late, True)

    def test_the_weave_of_the_other_world(self):
        blind = History(COIN, [("ask", 0, 0), ("answer", 0, 0), ("ask", 1, 0), ("answer", 1, 1), ("ready", 0), ("ready", 1),
                               ("yes", 0), ("yes", 1)])
        stamped = Stamped(blind, [8, 3])
        self.assertIs(shows_torn_early(stamped, torn_late(stamped)), True)
        self.assertIs(shows_torn_late(stamped, torn_early(stamped)), False)
        self.assertIs(shows_torn_late(stamped, torn_late(stamped)), True)

    def test_at_most_seven_deals_are_ready_at_the_second_house(self):
        fill = [("no", deal) for deal in range(1, 8)]
        history = History(COIN, fill + ended({0: [(0, 1)]}))
        for shows, tells in ((shows_torn_early, torn_early), (shows_torn_late, torn_late)):
            stamped = Stamped(history, list(range(8)))
            weave = tells(stamped).weave
            for many in (6, 7):
                more = [("ready", 1, deal) for deal in range(1, 1 + many)] + list(weave.events)
                self.assertIs(shows(stamped, StampTorn(Weave(weave.kinds, more), stamped.stamps)), many == 6)

    def test_the_second_house_must_be_right(self):
        # No order fits house 0; house 1 was told right, or that there is no coin while one lies there.
        stamped = Stamped(History(COIN, ended({0: [(0, 1)]})), [4])
        for shows in (shows_torn_early, shows_torn_late):
            for answer in (0, 1):
                events = [(word, house, 0) + rest for house, told in ((0, 1), (1, answer)) for word, rest in (("ask", (0,)), ("answer", (told,)))]
                events += [(word, house, 0) for word in ("ready", "yes") for house in (0, 1)]
                self.assertIs(shows(stamped, StampTorn(Weave([COIN, COIN], events), [4])), answer == 0)

    def test_just_the_deals_of_the_history(self):
        stamped = Stamped(History(COIN, ended({0: [(0, 1)]})), [4])
        for shows, tells in ((shows_torn_early, torn_early), (shows_torn_late, torn_late)):
            weave = tells(stamped).weave
            more = Weave(weave.kinds, [("no", 1, 5)] + list(weave.events))
            self.assertIs(shows(stamped, StampTorn(more, [4])), False)
            self.assertIs(shows(stamped, StampTorn(more, [4, 5])), False)

    def test_any_value_and_wrong_arguments(self):
        stamped = Stamped(History(COIN, ended({0: [(0, 1)]})), [4])
        weave = stair_weave(stamped)
        for shows in (shows_torn_early, shows_torn_late):
            for value in OTHERS + (weave, Torn(weave), Apart(weave), Paper("stamptorn", weave, [4])):
                self.assertIs(shows(stamped, value), False)
                self.assertIs(shows(stamped, StampTorn(weave, value)), False)
                self.assertIs(shows(stamped, StampTorn(value, [4])), value is weave)
            self.assert_faults(shows, {"stamped": stamped, "value": None}, [
                ("stamped", NO_OBJECTS + (COIN, stamped.history), BadValue("stamped")),
            ])
            many = Stamped(History(COIN, ended({deal: [] for deal in range(8)})), list(range(8)))
            self.assert_raises(TooMany("deals", 7), shows, many, None)
            kept = Stamped(History(COIN, []), [])
            self.assertIs(shows(kept, StampTorn(weave, [])), False)
        turned = [(word, deal) for deal in range(8) for word in ("ready", "yes")]
        self.assert_raises(Misfit("stamps"), shows_torn_late, Stamped(History(COIN, turned), list(range(8, 0, -1))), None)


def plain_apart(stamps, weave):
    """Whether a weave is that of a right Apart."""
    if not isinstance(weave, Weave) or len(weave.kinds) != 2:
        return False
    rows, deals = (plain_events_at(weave, 0), plain_events_at(weave, 1)), list(range(len(stamps)))
    if max(map(len, rows)) > 120 or list(weave.deals) != deals or list(weave.ended) != deals:
        return False
    if not is_right_early(weave.kinds[0], rows[0], dict(enumerate(stamps))):
        return False
    return plain_break(weave.kinds[1], rows[1]) is None and fits_nowhere(weave, rows)


class ShowsApartTest(SeenTest):
    def test_right_and_bent_weaves(self):
        dice, counts = random.Random(169), [0, 0]
        for stamps in [told for many in (2, 3, 4) for told in permutations(range(many))]:
            if list(stamps) == sorted(stamps):
                continue
            told = apart(stamps)
            self.assertIs(shows_apart(stamps, told), True)
            self.assertIs(shows_apart(stamps=list(stamps), value=Apart(weave=told.weave)), True)
            for weave in list(bent_weaves(dice, told.weave, 60)) + [apart(stamps[::-1] if stamps[0] < stamps[-1] else stamps).weave]:
                self.assertIs(shows_apart(stamps, Apart(weave)), plain_apart(stamps, weave))
                counts[plain_apart(stamps, weave)] += 1
            for other in permutations(stamps):
                self.assertIs(shows_apart(other, told), plain_apart(other, told.weave))
        self.assertGreater(min(counts), 100)

    def test_stamps_that_ascend(self):
        # With other houses than a stair and tickets as time goes there is such a weave, too.
        turned = [("ask", 1, 1, 0), ("answer", 1, 1, 0), ("ask", 1, 0, 0), ("answer", 1, 0, 1)]
        turned += [("ask", 0, 0, 0), ("answer", 0, 0, 0), ("ask", 0, 1, 1), ("answer", 0, 1, 0), ("ready", 1, 1), ("ready", 0, 1)]
        turned += [("yes", 1, 1), ("ready", 1, 0), ("ready", 0, 0), ("yes", 1, 0)]
        weave = Weave([stair(2), tickets(2)], turned)
        for stamps in ((3, 8), (8, 3)):
            self.assertIs(shows_apart(stamps, Apart(weave)), plain_apart(stamps, weave))
        self.assertIs(shows_apart([3, 8], Apart(weave)), True)

    def test_each_condition(self):
        weave = apart([8, 3]).weave
        self.assertIs(shows_apart([8, 3, 5], Apart(weave)), False)
        self.assertIs(shows_apart([8], Apart(weave)), False)
        opened = Weave(weave.kinds, weave.events[:-2])
        self.assertEqual((opened.deals, opened.ended), ((0, 1), (0,)))
        self.assertIs(shows_apart([8, 3], Apart(opened)), False)
        more = Weave(weave.kinds, list(weave.events) + [("no", 0, 2)])
        self.assertIs(shows_apart([8, 3], Apart(more)), False)
        self.assertIs(shows_apart([8, 3, 4], Apart(more)), False)
        # No order fits, and just one of the houses is right by itself, or both are.
        for answers in ((0, 0), (0, 1), (1, 0), (1, 1)):
            events = [(word, house, 0) + rest for house in (0, 1) for word, rest in (("ask", (0,)), ("answer", (answers[house],)))]
            events += [(word, house, 0) for word in ("ready", "yes") for house in (0, 1)]
            one = Weave([COIN, COIN], events)
            self.assertIs(shows_apart([8], Apart(one)), plain_apart([8], one))
            self.assertIs(shows_apart([8], Apart(one)), False)
        turned = Weave(weave.kinds[::-1], [(event[0], 1 - event[1]) + event[2:] for event in weave.events])
        self.assertIs(shows_apart([8, 3], Apart(turned)), plain_apart([8, 3], turned))

    def test_any_value_and_wrong_arguments(self):
        weave = apart([8, 3]).weave
        for value in OTHERS + (weave, Torn(weave), StampTorn(weave, [8, 3]), Paper("apart", weave)):
            self.assertIs(shows_apart([8, 3], value), False)
            self.assertIs(shows_apart([8, 3], Apart(value)), value is weave)
        wrongs = NO_ROWS + ([], [1, 1], [True, 0], [1, None], [2.0, 1], [[1], 0], list(range(8, 0, -1)))
        self.assert_faults(shows_apart, {"stamps": [8, 3], "value": None}, [("stamps", wrongs, BadStamps("stamps"))])

    def test_seven_deals(self):
        told = apart(list(range(7, 0, -1)))
        self.assertIs(self.assert_short(shows_apart, list(range(7, 0, -1)), told), True)
        stamped = Stamped(History(purse(8, 6), ended({deal: [(2, 0)] for deal in range(7)})), list(range(7)))
        for shows, tells in ((shows_torn_early, torn_early), (shows_torn_late, torn_late)):
            self.assertIs(self.assert_short(shows, stamped, tells(stamped)), True)


if __name__ == "__main__":
    unittest.main()
