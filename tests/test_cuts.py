"""Cuts: points [10], [11], [14], [15] and [16], and the interface's section on postbooks/cuts.py."""

import unittest

from postbooks.cuts import coins_under_way, states, through, under_way
from postbooks.errors import NoCut
from postbooks.story import events_of, kept_of, letters_of

CUT = ("cut",)
BIG = 10 ** 100

# What comes of these stories is worked out by hand.
TWO = (2, 10, [
    ("pay", 0, 1, 4), ("cut", 0), ("pay", 1, 0, 3), ("bring", 1), ("bring", 0),
])
THREE = (3, 10, [
    ("pay", 0, 1, 5), ("cut", 1), ("pay", 1, 2, 6), ("carry", 0, 1), ("pay", 1, 0, 9), ("bring", 2),
    ("pay", 2, 0, 16), ("carry", 1, 0), ("carry", 4, 0), ("cut", 0),
])
FOUR = (4, 5, [
    ("cut", 3), ("cut", 1), ("cut", 1), ("pay", 2, 3, 5), ("bring", 0), ("carry", 2, 2), ("carry", 0, 2),
    ("pay", 2, 1, 1), ("pay", 2, 1, 0), ("carry", 1, 2), ("bring", 3),
])
# The payment is there by the clock of 1, which is paid, and not by that of 2, which began the cut.
PAID = (3, 10, [("pay", 0, 1, 4), ("carry", 0, 1), ("cut", 2), ("carry", 1, 0), ("carry", 1, 1)])
# Each office pays its own number of coins to the next.
TWELVE = (12, 20, [("pay", who, (who + 1) % 12, who) for who in range(12)] + [("cut", 0)]
          + [("bring", to) for to in range(12)])


def states_of(told, name):
    return states(kept_of(*told), name)


def under_way_in(told, name):
    return under_way(letters_of(*told), states_of(told, name))


def coins_in(told, name):
    return coins_under_way(letters_of(*told), states_of(told, name))


def through_in(told, name):
    return through(events_of(*told), name, told[0])


class States(unittest.TestCase):
    def test_two_offices(self):
        self.assertEqual(states_of(TWO, (0, 2)), [(6, (2, 0)), (11, (2, 1))])

    def test_three_offices(self):
        self.assertEqual(states_of(THREE, (1, 1)), [(5, (1, 1, 0)), (10, (0, 1, 0)), (10, (0, 1, 0))])

    def test_two_cuts_of_one_office(self):
        first = [(5, (0, 1, 1, 0)), (5, (0, 1, 0, 0)), (0, (0, 1, 2, 1)), (10, (0, 1, 2, 1))]
        second = [(5, (0, 2, 1, 0)), (5, (0, 2, 0, 0)), (0, (0, 2, 2, 1)), (10, (0, 2, 2, 1))]
        self.assertEqual(states_of(FOUR, (1, 1)), first)
        self.assertEqual(states_of(FOUR, (1, 2)), second)

    def test_two_cuts_of_two_offices_at_once(self):
        told = (2, 10, [("cut", 0), ("pay", 0, 1, 4), ("cut", 1), ("bring", 1), ("bring", 0)])
        self.assertEqual(states_of(told, (0, 1)), [(10, (1, 0)), (10, (1, 1))])
        self.assertEqual(states_of(told, (1, 1)), [(6, (2, 1)), (10, (0, 1))])

    def test_twelve_offices(self):
        all_states = [(20, (2,) + (0,) * 11)] + [(19, (2,) + (1,) * 11)] * 11
        self.assertEqual(states_of(TWELVE, (0, 2)), all_states)

    def test_a_list_made_by_hand(self):
        kept = [[((1, 7), 3, (2, 7))], [((0, 1), BIG, (1, 0)), ((1, 7), 4, (1, 7))]]
        self.assertEqual(states(kept, (1, 7)), [(3, (2, 7)), (4, (1, 7))])


class NoStates(unittest.TestCase):
    def refused(self, told, name):
        with self.assertRaises(NoCut) as caught:
            states_of(told, name)
        self.assertIs(type(caught.exception), NoCut)

    def test_a_cut_that_some_office_has_not_kept(self):
        self.refused(FOUR, (3, 1))
        self.refused(THREE, (0, 2))

    def test_a_cut_that_lies_on_a_tray(self):
        self.refused((2, 10, [("pay", 0, 1, 1), ("cut", 0), ("carry", 1, 1)]), (0, 2))

    def test_each_office_is_asked(self):
        for late in range(4):
            deeds = [("cut", (late + 1) % 4)] + [("bring", to) for to in range(4) if to != late]
            self.refused((4, 10, deeds), ((late + 1) % 4, 1))
            self.assertEqual(len(states_of((4, 10, deeds + [("bring", late)]), ((late + 1) % 4, 1))), 4)

    def test_a_cut_that_none_has_kept(self):
        self.refused(TWO, (0, 3))
        self.refused(TWO, (BIG, BIG))
        self.refused((3, 10, []), (0, 1))

    def test_a_name_that_is_a_payments(self):
        self.refused(TWO, (0, 1))
        self.refused(TWO, (1, 1))
        self.refused(THREE, (0, 1))


class UnderWay(unittest.TestCase):
    def test_to_one_office(self):
        self.assertEqual(under_way_in(TWO, (0, 2)), [((1, 1), [0])])
        self.assertEqual(coins_in(TWO, (0, 2)), 3)

    def test_to_several_offices_and_none_sent_behind_the_cut(self):
        self.assertEqual(under_way_in(THREE, (1, 1)), [((0, 1), [1, 2])])
        self.assertEqual(coins_in(THREE, (1, 1)), 5)

    def test_in_the_order_in_which_they_were_sent(self):
        pairs = [((3, 1), [0, 1]), ((2, 1), [1]), ((2, 2), [0, 1])]
        self.assertEqual(under_way_in(FOUR, (1, 1)), pairs)
        self.assertEqual(under_way_in(FOUR, (1, 2)), pairs)
        # One payment has arrived where it goes, the other one is of nought coins.
        self.assertEqual(coins_in(FOUR, (1, 1)), 0)

    def test_a_payment_that_is_there_where_it_is_paid_and_not_elsewhere(self):
        self.assertEqual(states_of(PAID, (2, 1)), [(6, (1, 0, 1)), (14, (1, 0, 1)), (10, (0, 0, 1))])
        self.assertEqual(under_way_in(PAID, (2, 1)), [((0, 1), [2])])
        self.assertEqual(coins_in(PAID, (2, 1)), 0)

    def test_a_payment_that_is_there_elsewhere_and_not_where_it_is_paid(self):
        told = (3, 10, [("pay", 0, 2, 4), ("carry", 0, 1), ("cut", 2), ("carry", 1, 0), ("carry", 1, 1)])
        self.assertEqual(under_way_in(told, (2, 1)), [((0, 1), [2])])
        self.assertEqual(coins_in(told, (2, 1)), 4)

    def test_several_payments(self):
        deeds = [("pay", 0, 2, 4), ("pay", 1, 2, 3), ("pay", 0, 1, 2), ("cut", 2), ("pay", 2, 0, 9)]
        told = (3, 10, deeds + [("carry", 3, 0), ("carry", 3, 1), ("bring", 2), ("pay", 0, 1, 1)])
        pairs = [((0, 1), [1, 2]), ((1, 1), [0, 2]), ((0, 2), [1, 2])]
        self.assertEqual(under_way_in(told, (2, 1)), pairs)
        self.assertEqual(coins_in(told, (2, 1)), 9)

    def test_a_cut_under_way_by_another_cut(self):
        told = (2, 10, [("cut", 0), ("cut", 1), ("bring", 1), ("bring", 0)])
        self.assertEqual(under_way_in(told, (0, 1)), [((1, 1), [0])])
        self.assertEqual(under_way_in(told, (1, 1)), [((0, 1), [1])])
        self.assertEqual(coins_in(told, (0, 1)), 0)

    def test_nothing(self):
        told = (2, 10, [("pay", 0, 1, 4), ("cut", 0), ("bring", 1)])
        self.assertEqual(under_way_in(told, (0, 2)), [])
        self.assertEqual(coins_in(told, (0, 2)), 0)
        self.assertEqual(under_way([], [(1, (0, 0)), (1, (0, 0))]), [])
        self.assertEqual(coins_under_way([], [(1, (0, 0)), (1, (0, 0))]), 0)

    def test_twelve_offices(self):
        self.assertEqual(under_way_in(TWELVE, (0, 2)), [((who, 1), [0]) for who in range(1, 12)])
        self.assertEqual(coins_in(TWELVE, (0, 2)), 11)
        deeds = [("pay", 7, 3, 6), ("cut", 11)] + [("carry", 1, to) for to in range(12)]
        others = [office for office in range(12) if office != 7]
        self.assertEqual(under_way_in((12, 10, deeds), (11, 1)), [((7, 1), others)])
        self.assertEqual(coins_in((12, 10, deeds), (11, 1)), 6)

    def test_the_coins_are_as_many_as_in_the_beginning(self):
        cuts = [(TWO, (0, 2)), (THREE, (1, 1)), (FOUR, (1, 1)), (FOUR, (1, 2)), (PAID, (2, 1)), (TWELVE, (0, 2))]
        for told, name in cuts:
            there = sum(coins for coins, clock in states_of(told, name))
            self.assertEqual(there + coins_in(told, name), told[0] * told[1])

    def test_big_numbers(self):
        coins = 10 ** 130
        told = (2, coins, [("pay", 0, 1, coins), ("cut", 1), ("carry", 1, 0)])
        self.assertEqual(states_of(told, (1, 1)), [(0, (1, 1)), (coins, (0, 1))])
        self.assertEqual(coins_in(told, (1, 1)), coins)
        letters = [(0, (BIG - 1, 0), ("pay", 1, 1)), (0, (BIG, 0), ("pay", 1, 2)), (0, (BIG + 1, 0), ("pay", 1, 4))]
        cut = [(5, (BIG, 0)), (6, (BIG - 1, 1))]
        self.assertEqual(under_way(letters, cut), [((0, BIG), [1])])
        self.assertEqual(coins_under_way(letters, cut), 2)


class Through(unittest.TestCase):
    def test_two_offices(self):
        self.assertEqual(through_in(TWO, (0, 2)), (events_of(*TWO), 5))

    def test_three_offices(self):
        first = [("sent", 0, (0, 1)), ("sent", 1, (1, 1)), ("got", 2, (1, 1)), ("got", 0, (1, 1))]
        others = [
            ("sent", 1, (1, 2)), ("got", 1, (0, 1)), ("sent", 1, (1, 3)), ("got", 2, (1, 2)),
            ("got", 2, (0, 1)), ("got", 2, (1, 3)), ("sent", 2, (2, 1)), ("sent", 0, (0, 2)),
        ]
        self.assertEqual(through_in(THREE, (1, 1)), (first + others, 4))

    def test_four_offices(self):
        events = events_of(*FOUR)
        places = [0, 1, 3, 4, 5, 8, 9, 10, 12, 13, 14] + [2, 6, 7, 11, 15]
        self.assertEqual(through_in(FOUR, (1, 1)), ([events[place] for place in places], 11))
        places = [place for place in range(16) if place != 7] + [7]
        self.assertEqual(through_in(FOUR, (1, 2)), ([events[place] for place in places], 15))

    def test_twelve_offices(self):
        events = events_of(*TWELVE)
        # Office 0 keeps the cut as the thirteenth event and is brought eleven letters at once then.
        self.assertEqual(through_in(TWELVE, (0, 2)), (events[:13] + events[24:] + events[13:24], len(events) - 11))

    def test_the_cuts_letter_is_the_first_event_and_the_last(self):
        told = (2, 10, [("cut", 0), ("bring", 1)])
        self.assertEqual(through_in(told, (0, 1)), ([("sent", 0, (0, 1)), ("got", 1, (0, 1))], 2))

    def test_the_cuts_letter_is_the_first_event_of_its_sender(self):
        told = (2, 10, [("cut", 0), ("pay", 0, 1, 1), ("pay", 1, 0, 2), ("bring", 1)])
        first = [("sent", 0, (0, 1)), ("sent", 1, (1, 1)), ("got", 1, (0, 1))]
        self.assertEqual(through_in(told, (0, 1)), (first + [("sent", 0, (0, 2)), ("got", 1, (0, 2))], 3))

    def test_the_cuts_letter_is_the_last_event(self):
        told = (3, 10, [("pay", 0, 1, 1), ("cut", 0), ("bring", 1), ("cut", 1), ("carry", 0, 2), ("carry", 1, 2)])
        events = events_of(*told)
        self.assertEqual(events[-1], ("got", 2, (0, 2)))
        places = [0, 1, 2, 3, 5, 6, 4]
        self.assertEqual(through_in(told, (0, 2)), ([events[place] for place in places], 6))

    def test_two_cuts_of_two_offices_at_once(self):
        told = (2, 10, [("cut", 0), ("pay", 0, 1, 4), ("cut", 1), ("bring", 1), ("bring", 0)])
        events = events_of(*told)
        self.assertEqual(len(events), 6)
        places = [0, 2, 3, 1, 4, 5]
        self.assertEqual(through_in(told, (0, 1)), ([events[place] for place in places], 3))
        places = [0, 1, 2, 5, 3, 4]
        self.assertEqual(through_in(told, (1, 1)), ([events[place] for place in places], 4))


class NotThrough(unittest.TestCase):
    def refused(self, told, name):
        with self.assertRaises(NoCut) as caught:
            through_in(told, name)
        self.assertIs(type(caught.exception), NoCut)

    def test_a_cut_that_some_office_has_not_kept(self):
        self.refused(FOUR, (3, 1))
        self.refused(THREE, (0, 2))
        self.refused((2, 10, [("pay", 0, 1, 1), ("cut", 0), ("carry", 1, 1)]), (0, 2))

    def test_each_office_is_asked(self):
        for late in range(4):
            deeds = [("cut", (late + 1) % 4)] + [("bring", to) for to in range(4) if to != late]
            self.refused((4, 10, deeds), ((late + 1) % 4, 1))

    def test_an_office_without_any_event(self):
        self.refused((3, 10, [("cut", 0), ("bring", 1)]), (0, 1))

    def test_a_cut_that_none_has_kept(self):
        self.refused(TWO, (0, 3))
        self.refused(TWO, (BIG, BIG))
        self.refused((3, 10, []), (0, 1))

    def test_a_name_that_is_no_cuts(self):
        self.refused(THREE, (2, 1))
        self.refused(FOUR, (2, 2))


class NothingIsShared(unittest.TestCase):
    def test_what_is_handed_in_is_as_it_was(self):
        kept, letters, events = kept_of(*FOUR), letters_of(*FOUR), events_of(*FOUR)
        cut = states(kept, (1, 1))
        under_way(letters, cut)
        coins_under_way(letters, cut)
        through(events, (1, 1), 4)
        for name in ((3, 1), (9, 9)):
            self.assertRaises(NoCut, states, kept, name)
            self.assertRaises(NoCut, through, events, name, 4)
        self.assertEqual((kept, letters, events), (kept_of(*FOUR), letters_of(*FOUR), events_of(*FOUR)))
        self.assertEqual(cut, states_of(FOUR, (1, 1)))

    def test_what_is_handed_in_changed_afterwards_changes_no_answer(self):
        kept, letters, events = kept_of(*FOUR), letters_of(*FOUR), events_of(*FOUR)
        cut = states(kept, (1, 1))
        pairs, order = under_way(letters, cut), through(events, (1, 1), 4)
        for one in kept:
            one.clear()
        self.assertEqual(cut, states_of(FOUR, (1, 1)))
        for given in (kept, letters, events, cut):
            given.clear()
        self.assertEqual(pairs, under_way_in(FOUR, (1, 1)))
        self.assertEqual(order, through_in(FOUR, (1, 1)))

    def test_answers_changed_change_nothing(self):
        kept, letters, events = kept_of(*FOUR), letters_of(*FOUR), events_of(*FOUR)
        states(kept, (1, 1)).clear()
        cut = states(kept, (1, 1))
        pairs = under_way(letters, cut)
        for name, offices in pairs:
            offices.clear()
        pairs.clear()
        through(events, (1, 1), 4)[0].clear()
        self.assertEqual((kept, letters, events), (kept_of(*FOUR), letters_of(*FOUR), events_of(*FOUR)))
        self.assertEqual(under_way(letters, cut), under_way_in(FOUR, (1, 1)))
        self.assertEqual(through(events, (1, 1), 4), through_in(FOUR, (1, 1)))

    def test_the_order_is_a_list_of_its_own_where_it_stays(self):
        events = events_of(*TWO)
        order = through(events, (0, 2), 2)[0]
        self.assertEqual(order, events)
        order.clear()
        self.assertEqual(events, events_of(*TWO))

    def test_lists_within_an_answer_are_lists_of_their_own(self):
        pairs = under_way_in(FOUR, (1, 1))
        pairs[0][1].append("mine")
        self.assertEqual(pairs[1:], [((2, 1), [1]), ((2, 2), [0, 1])])

    def test_kinds(self):
        cut = states_of(THREE, (1, 1))
        self.assertEqual([type(part) for part in (cut, cut[0], cut[0][0], cut[0][1])], [list, tuple, int, tuple])
        pairs = under_way_in(THREE, (1, 1))
        kinds = [type(part) for part in (pairs, pairs[0], pairs[0][0], pairs[0][1])]
        self.assertEqual(kinds, [list, tuple, tuple, list])
        self.assertIs(type(coins_in(THREE, (1, 1))), int)
        told = through_in(THREE, (1, 1))
        self.assertEqual([type(part) for part in (told, told[0], told[0][0], told[1])], [tuple, list, tuple, int])


if __name__ == "__main__":
    unittest.main()
