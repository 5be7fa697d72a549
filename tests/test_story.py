"""Stories: points [12] and [13] over [1] to [10], and the interface's section on postbooks/story.py."""

import unittest

from postbooks.story import books, ends, events_of, kept_of, letters_of, story

CUT = ("cut",)
BIG = 10 ** 100

# Each of the three is worked out by hand.
TWO = (2, 10, [
    ("pay", 0, 1, 4), ("pay", 0, 1, 7), ("cut", 0), ("carry", 1, 1), ("carry", 0, 0), ("carry", 2, 1),
    ("pay", 1, 0, 3), ("carry", 0, 1), ("carry", 0, 1), ("bring", 0),
])
THREE = (3, 10, [
    ("pay", 0, 1, 5), ("cut", 1), ("pay", 1, 2, 6), ("carry", 0, 1), ("pay", 1, 0, 9), ("bring", 2),
    ("pay", 2, 0, 16), ("carry", 1, 0), ("carry", 4, 0), ("cut", 0),
])
FOUR = (4, 5, [
    ("cut", 3), ("cut", 1), ("cut", 1), ("pay", 2, 3, 5), ("bring", 0), ("carry", 2, 2), ("carry", 0, 2),
    ("pay", 2, 1, 1), ("pay", 2, 1, 0), ("carry", 1, 2), ("bring", 3),
])


def ring(count, coins):
    """Each office pays its own number of coins to the next, 0 begins a cut, and all is brought to all."""
    deeds = [("pay", who, (who + 1) % count, who) for who in range(count)]
    deeds.append(("cut", 0))
    return (count, coins, deeds + [("bring", to) for to in range(count)])


class Two(unittest.TestCase):
    def test_answers(self):
        names = [(0, 1), (0, 2)]
        answers = [(0, 1), None, (0, 2), [], [], None, (1, 1), names, [], [(1, 1)]]
        self.assertEqual(story(*TWO), answers)

    def test_letters(self):
        letters = [(0, (1, 0), ("pay", 1, 4)), (0, (2, 0), CUT), (1, (0, 1), ("pay", 0, 3))]
        self.assertEqual(letters_of(*TWO), letters)

    def test_events(self):
        events = [("sent", 0, (0, 1)), ("sent", 0, (0, 2)), ("sent", 1, (1, 1))]
        events += [("got", 1, (0, 1)), ("got", 1, (0, 2)), ("got", 0, (1, 1))]
        self.assertEqual(events_of(*TWO), events)

    def test_ends(self):
        self.assertEqual(ends(*TWO), [(9, (2, 1), 0), (11, (2, 1), 0)])

    def test_books(self):
        first = [("sent", (0, 1)), ("sent", (0, 2)), ("got", (1, 1))]
        self.assertEqual(books(*TWO), [first, [("sent", (1, 1)), ("got", (0, 1)), ("got", (0, 2))]])

    def test_cuts_kept(self):
        self.assertEqual(kept_of(*TWO), [[((0, 2), 6, (2, 0))], [((0, 2), 11, (2, 1))]])


class Three(unittest.TestCase):
    def test_answers(self):
        brought = [(1, 1), (1, 2), (0, 1), (1, 3)]
        answers = [(0, 1), (1, 1), (1, 2), [(0, 1)], (1, 3), brought, (2, 1), [(1, 1)], [], (0, 2)]
        self.assertEqual(story(*THREE), answers)

    def test_letters(self):
        self.assertEqual(letters_of(*THREE), [
            (0, (1, 0, 0), ("pay", 1, 5)), (1, (0, 1, 0), CUT), (1, (0, 2, 0), ("pay", 2, 6)),
            (1, (1, 3, 0), ("pay", 0, 9)), (2, (1, 3, 1), ("pay", 0, 16)), (0, (2, 1, 0), CUT),
        ])

    def test_events(self):
        self.assertEqual(events_of(*THREE), [
            ("sent", 0, (0, 1)), ("sent", 1, (1, 1)), ("sent", 1, (1, 2)), ("got", 1, (0, 1)),
            ("sent", 1, (1, 3)), ("got", 2, (1, 1)), ("got", 2, (1, 2)), ("got", 2, (0, 1)),
            ("got", 2, (1, 3)), ("sent", 2, (2, 1)), ("got", 0, (1, 1)), ("sent", 0, (0, 2)),
        ])

    def test_ends(self):
        self.assertEqual(ends(*THREE), [(5, (2, 1, 0), 1), (0, (1, 3, 0), 0), (0, (1, 3, 1), 0)])

    def test_books(self):
        self.assertEqual(books(*THREE), [
            [("sent", (0, 1)), ("got", (1, 1)), ("sent", (0, 2))],
            [("sent", (1, 1)), ("sent", (1, 2)), ("got", (0, 1)), ("sent", (1, 3))],
            [("got", (1, 1)), ("got", (1, 2)), ("got", (0, 1)), ("got", (1, 3)), ("sent", (2, 1))],
        ])

    def test_cuts_kept(self):
        first = [((1, 1), 5, (1, 1, 0)), ((0, 2), 5, (2, 1, 0))]
        self.assertEqual(kept_of(*THREE), [first, [((1, 1), 10, (0, 1, 0))], [((1, 1), 10, (0, 1, 0))]])


class Four(unittest.TestCase):
    def test_answers(self):
        self.assertEqual(story(*FOUR), [
            (3, 1), (1, 1), (1, 2), (2, 1), [(2, 1), (1, 1), (1, 2), (3, 1)], [], [(3, 1)],
            None, (2, 2), [(1, 1), (1, 2)], [(2, 1), (2, 2), (1, 1), (1, 2)],
        ])

    def test_letters(self):
        self.assertEqual(letters_of(*FOUR), [
            (3, (0, 0, 0, 1), CUT), (1, (0, 1, 0, 0), CUT), (1, (0, 2, 0, 0), CUT),
            (2, (0, 0, 1, 0), ("pay", 3, 5)), (2, (0, 0, 2, 1), ("pay", 1, 0)),
        ])

    def test_events(self):
        self.assertEqual(events_of(*FOUR), [
            ("sent", 3, (3, 1)), ("sent", 1, (1, 1)), ("sent", 1, (1, 2)), ("sent", 2, (2, 1)),
            ("got", 0, (2, 1)), ("got", 0, (1, 1)), ("got", 0, (1, 2)), ("got", 0, (3, 1)),
            ("got", 2, (3, 1)), ("sent", 2, (2, 2)), ("got", 2, (1, 1)), ("got", 2, (1, 2)),
            ("got", 3, (2, 1)), ("got", 3, (2, 2)), ("got", 3, (1, 1)), ("got", 3, (1, 2)),
        ])

    def test_ends(self):
        clocks = [(0, 2, 1, 1), (0, 2, 0, 0), (0, 2, 2, 1), (0, 2, 2, 1)]
        self.assertEqual(ends(*FOUR), [(5, clocks[0], 0), (5, clocks[1], 0), (0, clocks[2], 0), (10, clocks[3], 0)])

    def test_books(self):
        self.assertEqual(books(*FOUR), [
            [("got", (2, 1)), ("got", (1, 1)), ("got", (1, 2)), ("got", (3, 1))],
            [("sent", (1, 1)), ("sent", (1, 2))],
            [("sent", (2, 1)), ("got", (3, 1)), ("sent", (2, 2)), ("got", (1, 1)), ("got", (1, 2))],
            [("sent", (3, 1)), ("got", (2, 1)), ("got", (2, 2)), ("got", (1, 1)), ("got", (1, 2))],
        ])

    def test_cuts_kept(self):
        self.assertEqual(kept_of(*FOUR), [
            [((1, 1), 5, (0, 1, 1, 0)), ((1, 2), 5, (0, 2, 1, 0)), ((3, 1), 5, (0, 2, 1, 1))],
            [((1, 1), 5, (0, 1, 0, 0)), ((1, 2), 5, (0, 2, 0, 0))],
            [((3, 1), 0, (0, 0, 1, 1)), ((1, 1), 0, (0, 1, 2, 1)), ((1, 2), 0, (0, 2, 2, 1))],
            [((3, 1), 5, (0, 0, 0, 1)), ((1, 1), 10, (0, 1, 2, 1)), ((1, 2), 10, (0, 2, 2, 1))],
        ])


class Twelve(unittest.TestCase):
    """The ring of twelve, and of fifteen, which lies somewhat beyond."""

    def brought_to(self, count, to):
        names = [(who, 1) for who in range(count - 1, -1, -1) if who != to]
        return names if to == 0 else names + [(0, 2)]

    def test_answers(self):
        for count in (12, 15):
            sent = [(who, 1) for who in range(count)] + [(0, 2)]
            self.assertEqual(story(*ring(count, 20)), sent + [self.brought_to(count, to) for to in range(count)])

    def test_letters(self):
        letters = letters_of(*ring(12, 20))
        self.assertEqual(len(letters), 13)
        self.assertEqual(letters[0], (0, (1,) + (0,) * 11, ("pay", 1, 0)))
        self.assertEqual(letters[7], (7, (0,) * 7 + (1,) + (0,) * 4, ("pay", 8, 7)))
        self.assertEqual(letters[11], (11, (0,) * 11 + (1,), ("pay", 0, 11)))
        self.assertEqual(letters[12], (0, (2,) + (0,) * 11, CUT))

    def test_events_and_books(self):
        sent = [("sent", who, (who, 1)) for who in range(12)] + [("sent", 0, (0, 2))]
        got = [("got", to, name) for to in range(12) for name in self.brought_to(12, to)]
        self.assertEqual(events_of(*ring(12, 20)), sent + got)
        told = books(*ring(12, 20))
        self.assertEqual(len(told), 12)
        self.assertEqual(told[0][:3], [("sent", (0, 1)), ("sent", (0, 2)), ("got", (11, 1))])
        self.assertEqual(told[11][:2], [("sent", (11, 1)), ("got", (10, 1))])
        self.assertEqual(told[11][-2:], [("got", (0, 1)), ("got", (0, 2))])

    def test_ends(self):
        clock = (2,) + (1,) * 11
        self.assertEqual(ends(*ring(12, 20)), [(31, clock, 0)] + [(19, clock, 0)] * 11)

    def test_cuts_kept(self):
        kept = kept_of(*ring(12, 20))
        self.assertEqual(kept, [[((0, 2), 20, (2,) + (0,) * 11)]] + [[((0, 2), 19, (2,) + (1,) * 11)]] * 11)


class NoDeeds(unittest.TestCase):
    def test_nothing_comes_of_them(self):
        for tell in (story, letters_of, events_of):
            self.assertEqual(tell(3, 10, []), [])
        self.assertEqual(ends(3, 10, []), [(10, (0, 0, 0), 0)] * 3)
        self.assertEqual(books(3, 10, []), [[], [], []])
        self.assertEqual(kept_of(3, 10, []), [[], [], []])


class Paying(unittest.TestCase):
    def test_nought_coins_and_all_coins(self):
        deeds = [("pay", 1, 0, 0), ("pay", 1, 0, 7), ("pay", 1, 0, 0)]
        self.assertEqual(story(2, 7, deeds), [(1, 1), (1, 2), (1, 3)])
        self.assertEqual(ends(2, 7, deeds), [(7, (0, 0), 0), (0, (0, 3), 0)])

    def test_offices_without_coins(self):
        self.assertEqual(story(2, 0, [("pay", 0, 1, 1), ("pay", 0, 1, 0)]), [None, (0, 1)])

    def test_one_coin_more_than_there_are_changes_nothing(self):
        refused = ("pay", 0, 1, 8)
        for tell in (letters_of, events_of, ends, books, kept_of):
            self.assertEqual(tell(2, 7, [refused]), tell(2, 7, []))
        self.assertEqual(story(2, 7, [refused]), [None])

    def test_the_letters_behind_a_refused_one_are_numbered_on(self):
        deeds = [("pay", 0, 1, 3), ("pay", 0, 1, 5), ("pay", 0, 1, 4), ("cut", 0), ("pay", 0, 1, 1), ("cut", 0)]
        self.assertEqual(story(2, 7, deeds), [(0, 1), None, (0, 2), (0, 3), None, (0, 4)])
        self.assertEqual([letter[1] for letter in letters_of(2, 7, deeds)], [(1, 0), (2, 0), (3, 0), (4, 0)])
        self.assertEqual(events_of(2, 7, deeds), [("sent", 0, (0, number)) for number in (1, 2, 3, 4)])
        self.assertEqual(ends(2, 7, deeds), [(0, (4, 0), 0), (7, (0, 0), 0)])

    def test_coins_that_came_are_paid_on(self):
        deeds = [("pay", 0, 1, 5), ("pay", 1, 2, 10), ("carry", 0, 1), ("pay", 1, 2, 10), ("bring", 2)]
        self.assertEqual(story(3, 5, deeds), [(0, 1), None, [(0, 1)], (1, 1), [(0, 1), (1, 1)]])
        self.assertEqual([end[0] for end in ends(3, 5, deeds)], [0, 0, 15])

    def test_numbers_of_a_hundred_figures_and_more(self):
        for coins in (BIG - 1, BIG, 10 ** 130 + 1):
            deeds = [("pay", 0, 1, coins), ("pay", 0, 1, 1), ("carry", 0, 1), ("pay", 1, 0, 2 * coins + 1), ("cut", 1)]
            self.assertEqual(story(2, coins, deeds), [(0, 1), None, [(0, 1)], None, (1, 1)])
            self.assertEqual(letters_of(2, coins, deeds)[0], (0, (1, 0), ("pay", 1, coins)))
            self.assertEqual(ends(2, coins, deeds), [(0, (1, 0), 0), (2 * coins, (1, 1), 0)])
            self.assertEqual(kept_of(2, coins, deeds)[1], [((1, 1), 2 * coins, (1, 1))])


class Carrying(unittest.TestCase):
    def test_a_letter_that_is_not_there_yet(self):
        deeds = [("carry", 0, 1), ("cut", 0), ("carry", 1, 1), ("carry", 99, 0), ("carry", BIG, 0), ("carry", 0, 1)]
        self.assertEqual(story(2, 7, deeds), [None, (0, 1), None, None, None, [(0, 1)]])
        self.assertEqual(ends(2, 7, deeds), [(7, (1, 0), 0), (7, (1, 0), 0)])
        self.assertEqual(events_of(2, 7, deeds), [("sent", 0, (0, 1)), ("got", 1, (0, 1))])

    def test_a_number_below_nought_is_no_letters(self):
        self.assertEqual(story(2, 7, [("cut", 0), ("carry", -1, 1)]), [(0, 1), None])

    def test_a_refused_payment_is_no_letter(self):
        self.assertEqual(story(2, 7, [("pay", 0, 1, 8), ("carry", 0, 1)]), [None, None])
        deeds = [("pay", 0, 1, 8), ("cut", 1), ("carry", 0, 0)]
        self.assertEqual(story(2, 7, deeds), [None, (1, 1), [(1, 1)]])

    def test_letters_are_numbered_in_the_order_in_which_all_were_sent(self):
        deeds = [("cut", 2), ("cut", 0), ("cut", 1), ("cut", 0), ("carry", 2, 2), ("carry", 0, 1), ("carry", 1, 1)]
        self.assertEqual(story(3, 7, deeds)[4:], [[(1, 1)], [(2, 1)], [(0, 1)]])

    def test_to_its_own_sender(self):
        deeds = [("pay", 0, 1, 3), ("cut", 0), ("carry", 0, 0), ("carry", 1, 0)]
        self.assertEqual(story(2, 7, deeds), [(0, 1), (0, 2), [], []])
        for tell in (letters_of, events_of, ends, books, kept_of):
            self.assertEqual(tell(2, 7, deeds), tell(2, 7, deeds[:2]))

    def test_twice(self):
        deeds = [("pay", 0, 1, 3), ("carry", 0, 1), ("carry", 0, 1)]
        self.assertEqual(story(2, 7, deeds), [(0, 1), [(0, 1)], []])
        for tell in (letters_of, events_of, ends, books, kept_of):
            self.assertEqual(tell(2, 7, deeds), tell(2, 7, deeds[:2]))

    def test_twice_onto_the_tray(self):
        deeds = [("cut", 0), ("pay", 0, 1, 3), ("carry", 1, 1), ("carry", 1, 1)]
        self.assertEqual(ends(2, 7, deeds), [(4, (2, 0), 0), (7, (0, 0), 1)])
        self.assertEqual(story(2, 7, deeds + [("carry", 0, 1)])[-1], [(0, 1), (0, 2)])
        self.assertEqual(ends(2, 7, deeds + [("carry", 0, 1)])[1], (10, (2, 0), 0))

    def test_ahead_of_those_before_it(self):
        deeds = [("cut", 0), ("carry", 0, 1), ("pay", 1, 2, 3), ("carry", 1, 2)]
        self.assertEqual(story(3, 7, deeds), [(0, 1), [(0, 1)], (1, 1), []])
        self.assertEqual(ends(3, 7, deeds)[2], (7, (0, 0, 0), 1))
        self.assertEqual(events_of(3, 7, deeds)[-1], ("sent", 1, (1, 1)))
        self.assertEqual(story(3, 7, deeds + [("carry", 0, 2)])[-1], [(0, 1), (1, 1)])
        self.assertEqual(events_of(3, 7, deeds + [("carry", 0, 2)])[-2:], [("got", 2, (0, 1)), ("got", 2, (1, 1))])


class Bringing(unittest.TestCase):
    def test_no_letters_and_own_letters_alone(self):
        self.assertEqual(story(2, 7, [("bring", 0), ("cut", 0), ("cut", 0), ("bring", 0)]), [[], (0, 1), (0, 2), []])

    def test_the_last_letter_comes_first(self):
        deeds = [("cut", 0), ("cut", 1), ("cut", 2), ("bring", 3)]
        self.assertEqual(story(4, 7, deeds)[-1], [(2, 1), (1, 1), (0, 1)])
        self.assertEqual(events_of(4, 7, deeds)[3:], [("got", 3, name) for name in [(2, 1), (1, 1), (0, 1)]])

    def test_letters_of_one_sender_wait_for_the_first(self):
        deeds = [("cut", 0), ("cut", 0), ("cut", 1), ("cut", 0), ("bring", 2)]
        self.assertEqual(story(3, 7, deeds)[-1], [(1, 1), (0, 1), (0, 2), (0, 3)])

    def test_letters_of_one_sender_wait_for_those_of_others_before_them(self):
        deeds = [("cut", 1), ("cut", 0), ("carry", 1, 1), ("cut", 1), ("bring", 2)]
        self.assertEqual(letters_of(3, 7, deeds)[2], (1, (1, 2, 0), CUT))
        self.assertEqual(story(3, 7, deeds)[-1], [(0, 1), (1, 1), (1, 2)])
        deeds = [("cut", 0), ("carry", 0, 1), ("cut", 1), ("cut", 0), ("bring", 2)]
        self.assertEqual(story(3, 7, deeds)[-1], [(0, 1), (0, 2), (1, 1)])

    def test_what_lies_on_the_tray_keeps_its_place(self):
        deeds = [("cut", 0), ("cut", 0), ("carry", 0, 1), ("cut", 1), ("carry", 1, 2), ("bring", 2)]
        # The tray has (0, 2), then (1, 1) behind it; both wait for (0, 1).
        self.assertEqual(story(3, 7, deeds)[-1], [(0, 1), (0, 2), (1, 1)])
        del deeds[4]
        self.assertEqual(story(3, 7, deeds)[-1], [(0, 1), (1, 1), (0, 2)])

    def test_only_those_that_are_not_there_yet(self):
        deeds = [("pay", 0, 1, 3), ("cut", 0), ("bring", 1), ("cut", 0), ("bring", 1), ("bring", 1)]
        self.assertEqual(story(2, 7, deeds)[2:], [[(0, 1), (0, 2)], (0, 3), [(0, 3)], []])
        self.assertEqual(ends(2, 7, deeds)[1], (10, (3, 0), 0))


class Long(unittest.TestCase):
    def test_a_hundred_and_thirty_deeds_of_twelve_offices(self):
        deeds = [("pay", number % 12, (number + 1) % 12, 1) for number in range(118)]
        deeds += [("bring", to) for to in range(12)]
        answers = story(12, 10, deeds)
        self.assertEqual(answers[:118], [(number % 12, number // 12 + 1) for number in range(118)])
        clock = (10,) * 10 + (9,) * 2
        self.assertEqual([len(names) for names in answers[118:]], [118 - many for many in clock])
        coins = [9] + [10] * 9 + [11, 10]
        self.assertEqual(ends(12, 10, deeds), [(many, clock, 0) for many in coins])

    def test_a_chain_of_answers_brought_backwards(self):
        deeds = []
        for number in range(60):
            deeds += [("pay", number % 2, 1 - number % 2, 1), ("carry", number, 1 - number % 2)]
        deeds.append(("bring", 2))
        self.assertEqual(story(3, 1, deeds)[-1], [(number % 2, number // 2 + 1) for number in range(60)])
        self.assertEqual(ends(3, 1, deeds), [(1, (30, 30, 0), 0)] * 3)


class NothingIsShared(unittest.TestCase):
    TELLS = (story, letters_of, events_of, ends, books, kept_of)

    def test_the_deeds_handed_in_are_as_they_were(self):
        for count, coins, deeds in (TWO, THREE, FOUR):
            for tell in self.TELLS:
                given = list(deeds)
                tell(count, coins, given)
                self.assertEqual(given, deeds)

    def test_deeds_changed_afterwards_change_no_answer(self):
        for tell in self.TELLS:
            given = list(THREE[2])
            told = tell(3, 10, given)
            given.clear()
            self.assertEqual(told, tell(*THREE))

    def test_answers_changed_change_no_other_answer(self):
        for tell in self.TELLS:
            told, again = tell(*THREE), tell(*THREE)
            for part in told:
                if isinstance(part, list):
                    part.append("mine")
            told.clear()
            self.assertEqual(again, tell(*THREE))
            self.assertNotEqual(again, [])

    def test_lists_within_an_answer_are_lists_of_their_own(self):
        for tell in self.TELLS:
            for one in (THREE, (3, 10, []), (2, 5, [("bring", 0), ("bring", 0), ("bring", 1)])):
                lists = [part for part in tell(*one) if isinstance(part, list)]
                self.assertEqual(len({id(part) for part in lists}), len(lists))

    def test_kinds(self):
        for tell in self.TELLS:
            self.assertIs(type(tell(*THREE)), list)
        answers = story(*THREE)
        self.assertEqual([type(answers[place]) for place in (0, 1, 3, 5)], [tuple, tuple, list, list])
        self.assertIs(type(answers[5][0]), tuple)
        for parts in (letters_of(*THREE)[0], events_of(*THREE)[0], ends(*THREE)[0]):
            self.assertIs(type(parts), tuple)
        self.assertEqual([type(part) for part in letters_of(*THREE)[0]], [int, tuple, tuple])
        self.assertEqual([type(part) for part in ends(*THREE)[0]], [int, tuple, int])
        self.assertEqual([type(books(*THREE)[0]), type(books(*THREE)[0][0])], [list, tuple])
        self.assertEqual([type(kept_of(*THREE)[0]), type(kept_of(*THREE)[0][0])], [list, tuple])


if __name__ == "__main__":
    unittest.main()
