"""Many offices over roads that carry letters late, in any order and several times.

What each office has is held against what the points [3] to [11] say of all letters together.
The chances are drawn from fixed seeds, so every run is the same.
"""

import random
import unittest

from postbooks.clocks import before, beside
from postbooks.errors import Poor
from postbooks.office import Office

COINS = 20


def name_of(letter):
    return (letter[0], letter[1][letter[0]])


def run(seed, count, deeds):
    chance = random.Random(seed)
    offices = [Office(number, count, COINS) for number in range(count)]
    letters = []
    for deed in range(deeds):
        office = chance.choice(offices)
        choice = chance.randrange(10)
        if choice == 0:
            letters.append(office.cut())
        elif choice < 4:
            to = chance.choice([number for number in range(count) if number != office.number])
            try:
                letters.append(office.pay(to, chance.randrange(COINS)))
            except Poor:
                pass
        elif letters:
            office.take(chance.choice(letters))
    return offices, letters


class Roads(unittest.TestCase):
    def setUp(self):
        self.runs = [run(seed, 2 + seed % 6, 150) for seed in range(40)]

    def test_the_runs_hold_what_is_asked_for(self):
        self.assertTrue(any(office.tray for offices, letters in self.runs for office in offices))
        self.assertTrue(any(len(office.kept) > 1 for offices, letters in self.runs for office in offices))

    def test_books_and_clocks_tell_the_same(self):
        for offices, letters in self.runs:
            for office in offices:
                names = [name for how, name in office.book]
                self.assertEqual(len(set(names)), len(names))
                for number in range(len(offices)):
                    theirs = [name for name in names if name[0] == number]
                    self.assertEqual(theirs, [(number, k + 1) for k in range(office.clock[number])])
                for how, name in office.book:
                    self.assertEqual(how, "sent" if name[0] == office.number else "got")

    def test_no_letter_is_handed_over_ahead_of_those_its_sender_had(self):
        for offices, letters in self.runs:
            book_at = {}
            for office in offices:
                names = [name for how, name in office.book]
                for place, (how, name) in enumerate(office.book):
                    if how == "sent":
                        book_at[name] = set(names[:place])
            for office in offices:
                there = set()
                for how, name in office.book:
                    self.assertLessEqual(book_at[name], there)
                    there.add(name)
            for one in letters:
                for other in letters:
                    had = name_of(one) in book_at[name_of(other)]
                    had_back = name_of(other) in book_at[name_of(one)]
                    self.assertIs(before(one, other), had)
                    self.assertIs(beside(one, other), one != other and not had and not had_back)

    def test_the_tray_holds_nothing_that_is_there_ready_or_double(self):
        for offices, letters in self.runs:
            for office in offices:
                there = [name for how, name in office.book]
                names = [name_of(letter) for letter in office.tray]
                self.assertEqual(len(set(names)), len(names))
                for letter in office.tray:
                    self.assertNotIn(name_of(letter), there)
                    nearer = [other for other in letters if before(other, letter)]
                    self.assertTrue(any(name_of(other) not in there for other in nearer))

    def test_coins_are_those_of_the_book(self):
        for offices, letters in self.runs:
            by_name = {name_of(letter): letter for letter in letters}
            for office in offices:
                coins = COINS
                for how, name in office.book:
                    what = by_name[name][2]
                    if what[0] == "pay" and how == "sent":
                        coins -= what[2]
                    elif what[0] == "pay" and what[1] == office.number:
                        coins += what[2]
                self.assertEqual(office.coins, coins)
                self.assertGreaterEqual(coins, 0)

    def test_no_cut_has_a_letter_that_its_sender_had_not_sent_in_it(self):
        for offices, letters in self.runs:
            kept = [{name: clock for name, coins, clock in office.kept} for office in offices]
            for name in {name for cuts in kept for name in cuts}:
                clocks = {number: cuts[name] for number, cuts in enumerate(kept) if name in cuts}
                for clock in clocks.values():
                    for sender in clocks:
                        self.assertLessEqual(clock[sender], clocks[sender][sender])

    def test_once_all_is_brought_all_have_the_same_letters(self):
        for offices, letters in self.runs:
            for office in offices:
                for letter in reversed(letters):
                    office.take(letter)
            for office in offices:
                self.assertEqual(office.tray, [])
                self.assertEqual(office.clock, offices[0].clock)
            self.assertEqual(sum(offices[0].clock), len(letters))
            self.assertEqual(sum(office.coins for office in offices), COINS * len(offices))


if __name__ == "__main__":
    unittest.main()
