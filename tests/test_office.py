"""Offices: points [1] to [3] and [5] to [10], and the interface's section on postbooks/office.py."""

import unittest

from postbooks.errors import Poor, PostError
from postbooks.office import Office, sent_by, taken_by

CUT = ("cut",)
BIG = 10 ** 100


def offices(count, coins):
    return [Office(number, count, coins) for number in range(count)]


def state(office):
    lists = (list(office.book), list(office.tray), list(office.kept))
    return (office.number, office.coins, office.clock) + lists


class NewOffice(unittest.TestCase):
    def test_its_fields(self):
        self.assertEqual(state(Office(1, 3, 20)), (1, 20, (0, 0, 0), [], [], []))

    def test_the_kinds_of_its_fields(self):
        office = Office(0, 2, 0)
        self.assertIs(type(office.clock), tuple)
        for field in (office.book, office.tray, office.kept):
            self.assertIs(type(field), list)

    def test_two_offices_share_nothing(self):
        one, other = Office(0, 2, 5), Office(0, 2, 5)
        one.cut()
        one.take((1, (0, 2), CUT))
        self.assertEqual(state(other), (0, 5, (0, 0), [], [], []))

    def test_many_offices(self):
        self.assertEqual(Office(14, 15, 1).clock, (0,) * 15)


class Sending(unittest.TestCase):
    def test_a_payment(self):
        office = Office(1, 3, 20)
        self.assertEqual(office.pay(2, 15), (1, (0, 1, 0), ("pay", 2, 15)))
        self.assertEqual(state(office), (1, 5, (0, 1, 0), [("sent", (1, 1))], [], []))

    def test_a_cut(self):
        office = Office(1, 3, 20)
        self.assertEqual(office.cut(), (1, (0, 1, 0), CUT))
        kept = [((1, 1), 20, (0, 1, 0))]
        self.assertEqual(state(office), (1, 20, (0, 1, 0), [("sent", (1, 1))], [], kept))

    def test_the_stamp_counts_what_was_sent_and_handed_over(self):
        office = Office(0, 3, 9)
        office.pay(1, 1)
        office.take((2, (0, 0, 1), CUT))
        office.take((1, (1, 1, 1), CUT))
        self.assertEqual(office.pay(2, 1), (0, (2, 1, 1), ("pay", 2, 1)))

    def test_a_letter_on_the_tray_is_not_counted(self):
        office = Office(0, 2, 9)
        office.take((1, (0, 2), CUT))
        self.assertEqual(office.cut(), (0, (1, 0), CUT))

    def test_nought_coins(self):
        office = Office(0, 2, 0)
        self.assertEqual(office.pay(1, 0), (0, (1, 0), ("pay", 1, 0)))
        self.assertEqual(state(office), (0, 0, (1, 0), [("sent", (0, 1))], [], []))

    def test_all_the_coins(self):
        office = Office(0, 2, 7)
        office.pay(1, 7)
        self.assertEqual(office.coins, 0)

    def test_big_numbers(self):
        office = Office(0, 2, BIG)
        office.pay(1, BIG - 1)
        self.assertEqual(office.coins, 1)
        other = Office(1, 2, 10 ** 130)
        other.take((0, (1, 0), ("pay", 1, BIG - 1)))
        self.assertEqual(other.coins, 10 ** 130 + BIG - 1)


class Poverty(unittest.TestCase):
    def test_one_coin_too_many_changes_nothing(self):
        office = Office(0, 3, 7)
        office.cut()
        office.take((1, (0, 2, 0), CUT))
        office.take((2, (0, 0, 1), ("pay", 1, 3)))
        had = state(office)
        for many in (8, 9, BIG):
            with self.assertRaises(Poor) as caught:
                office.pay(1, many)
            self.assertIs(type(caught.exception), Poor)
            self.assertIsInstance(caught.exception, PostError)
            self.assertEqual(state(office), had)

    def test_a_refused_payment_has_no_number(self):
        office = Office(0, 2, 7)
        with self.assertRaises(Poor):
            office.pay(1, 8)
        self.assertEqual(office.pay(1, 7), (0, (1, 0), ("pay", 1, 7)))

    def test_what_was_paid_is_gone_at_once(self):
        office = Office(0, 2, 7)
        office.pay(1, 4)
        with self.assertRaises(Poor):
            office.pay(1, 4)
        self.assertEqual(office.coins, 3)

    def test_coins_on_the_tray_are_not_there_yet(self):
        office = Office(0, 2, 0)
        office.take((1, (0, 2), ("pay", 0, 5)))
        with self.assertRaises(Poor):
            office.pay(1, 1)
        office.take((1, (0, 1), ("pay", 0, 5)))
        office.pay(1, 10)
        self.assertEqual(office.coins, 0)


class Taking(unittest.TestCase):
    def test_letters_in_order(self):
        sender, office = Office(0, 2, 9), Office(1, 2, 9)
        self.assertEqual(office.take(sender.pay(1, 2)), [(0, 1)])
        self.assertEqual(office.take(sender.pay(1, 3)), [(0, 2)])
        book = [("got", (0, 1)), ("got", (0, 2))]
        self.assertEqual(state(office), (1, 14, (2, 0), book, [], []))

    def test_the_book_has_what_was_sent_and_got_in_that_order(self):
        one, other = offices(2, 9)
        first = one.pay(1, 1)
        other.cut()
        other.take(first)
        other.pay(0, 1)
        other.take(one.pay(1, 1))
        book = [("sent", (1, 1)), ("got", (0, 1)), ("sent", (1, 2)), ("got", (0, 2))]
        self.assertEqual(other.book, book)

    def test_a_payment_to_this_office_and_to_another_one(self):
        one, two, three = offices(3, 10)
        letter = one.pay(1, 4)
        two.take(letter)
        three.take(letter)
        self.assertEqual((one.coins, two.coins, three.coins), (6, 14, 10))
        self.assertEqual((two.book, three.book), ([("got", (0, 1))], [("got", (0, 1))]))

    def test_coins_are_given_when_handed_over_and_not_before(self):
        sender, office = Office(0, 2, 9), Office(1, 2, 9)
        first, second = sent_by(sender, [("pay", 1, 2), ("pay", 1, 3)])
        self.assertEqual(office.take(second), [])
        self.assertEqual(state(office), (1, 9, (0, 0), [], [second], []))
        self.assertEqual(office.take(first), [(0, 1), (0, 2)])
        self.assertEqual((office.coins, office.clock, office.tray), (14, (2, 0), []))

    def test_a_letter_waits_for_one_of_another_office_before_it(self):
        one, two, three = offices(3, 10)
        first = one.pay(2, 1)
        two.take(first)
        second = two.pay(2, 2)
        self.assertEqual(three.take(second), [])
        self.assertEqual((three.tray, three.coins), ([second], 10))
        self.assertEqual(three.take(first), [(0, 1), (1, 1)])
        self.assertEqual((three.tray, three.coins, three.clock), ([], 13, (1, 1, 0)))

    def test_an_offices_own_letter(self):
        one, two = offices(2, 10)
        letters = [one.pay(1, 4), one.cut()]
        had = state(one)
        self.assertEqual(taken_by(one, letters + letters[::-1]), [[], [], [], []])
        self.assertEqual(state(one), had)

    def test_a_letter_that_is_there_already(self):
        sender, office = Office(0, 2, 9), Office(1, 2, 9)
        letters = sent_by(sender, [("pay", 1, 2), CUT, ("pay", 1, 3)])
        taken_by(office, letters)
        had = state(office)
        self.assertEqual(taken_by(office, letters[::-1] + letters), [[]] * 6)
        self.assertEqual(state(office), had)

    def test_a_letter_that_lies_on_the_tray_already(self):
        sender, office = Office(0, 2, 9), Office(1, 2, 9)
        first, second, third = sent_by(sender, [("pay", 1, 2), ("pay", 1, 3), CUT])
        self.assertEqual(taken_by(office, [third, second, third, second, third]), [[]] * 5)
        self.assertEqual(office.tray, [third, second])
        self.assertEqual(office.take(first), [(0, 1), (0, 2), (0, 3)])
        self.assertEqual((office.coins, office.tray), (14, []))

    def test_a_letter_that_lies_on_the_tray_as_an_equal_tuple(self):
        office = Office(1, 2, 9)
        office.take((0, (2, 0), ("pay", 1, 3)))
        office.take((0, tuple([2, 0]), tuple(["pay", 1, 3])))
        self.assertEqual(office.tray, [(0, (2, 0), ("pay", 1, 3))])

    def test_a_letter_taken_off_the_tray_is_not_put_there_again(self):
        sender, office = Office(0, 2, 9), Office(1, 2, 9)
        first, second = sent_by(sender, [("pay", 1, 2), ("pay", 1, 3)])
        answers = taken_by(office, [second, first, second, first])
        self.assertEqual(answers, [[], [(0, 1), (0, 2)], [], []])
        self.assertEqual((office.tray, office.coins), ([], 14))

    def test_stamps_that_count_fewer_as_many_and_one_more_of_the_others(self):
        for many, answer in ((0, [(0, 1)]), (1, [(0, 1)]), (2, [(0, 1)]), (3, [])):
            office = Office(2, 3, 9)
            taken_by(office, [(1, (0, 1, 0), CUT), (1, (0, 2, 0), CUT)])
            self.assertEqual(office.take((0, (1, many, 0), CUT)), answer)

    def test_fifteen_offices_that_answer_one_another_backwards(self):
        row = offices(15, 10)
        letters = []
        for office in row:
            taken_by(office, letters)
            letters.append(office.pay((office.number + 1) % 15, 10))
        late = Office(14, 15, 10)
        answers = taken_by(late, letters[13::-1])
        self.assertEqual(answers, [[]] * 13 + [[(number, 1) for number in range(14)]])
        self.assertEqual((late.coins, late.clock), (20, (1,) * 14 + (0,)))


class OrderOfTheTray(unittest.TestCase):
    def setUp(self):
        one, two, three, self.office = offices(4, 10)
        self.first = one.cut()
        two.take(self.first)
        three.take(self.first)
        self.second = two.pay(3, 1)
        self.third = two.pay(3, 2)
        self.other = three.pay(3, 4)

    def test_letters_are_put_behind_those_that_lie_there(self):
        taken_by(self.office, [self.third, self.other, self.second])
        self.assertEqual(self.office.tray, [self.third, self.other, self.second])

    def test_the_first_ready_one_is_handed_over_each_time(self):
        taken_by(self.office, [self.third, self.second, self.other])
        # Once the second is there the third is ready, and lies ahead of the other.
        names = [(0, 1), (1, 1), (1, 2), (2, 1)]
        self.assertEqual(self.office.take(self.first), names)
        self.assertEqual(self.office.book, [("got", name) for name in names])

    def test_one_that_lies_further_ahead_goes_first(self):
        taken_by(self.office, [self.other, self.third, self.second])
        self.assertEqual(self.office.take(self.first), [(0, 1), (2, 1), (1, 1), (1, 2)])

    def test_a_ready_one_goes_ahead_of_one_that_waits(self):
        taken_by(self.office, [self.third, self.other, self.second])
        self.assertEqual(self.office.take(self.first), [(0, 1), (2, 1), (1, 1), (1, 2)])

    def test_those_that_are_not_ready_stay_in_their_order(self):
        far = (1, (1, 4, 0, 0), CUT)
        taken_by(self.office, [far, self.third, self.other])
        self.assertEqual(self.office.take(self.first), [(0, 1), (2, 1)])
        self.assertEqual(self.office.tray, [far, self.third])
        self.assertEqual(self.office.take(self.second), [(1, 1), (1, 2)])
        self.assertEqual(self.office.tray, [far])


class Cuts(unittest.TestCase):
    def test_a_cut_handed_over_is_kept_and_changes_no_coins(self):
        one, two = offices(2, 10)
        pay, cut = one.pay(1, 4), one.cut()
        two.take(pay)
        self.assertEqual(two.take(cut), [(0, 2)])
        self.assertEqual(one.kept, [((0, 2), 6, (2, 0))])
        self.assertEqual(two.kept, [((0, 2), 14, (2, 0))])
        self.assertEqual((one.coins, two.coins), (6, 14))
        self.assertEqual(two.book, [("got", (0, 1)), ("got", (0, 2))])

    def test_a_cut_on_the_tray_is_not_kept_yet(self):
        one, two = offices(2, 10)
        pay, cut = one.pay(1, 4), one.cut()
        two.take(cut)
        self.assertEqual(two.kept, [])
        two.take(pay)
        self.assertEqual(two.kept, [((0, 2), 14, (2, 0))])

    def test_what_is_kept_stays_as_it_was(self):
        one, two = offices(2, 10)
        cut = one.cut()
        two.take(cut)
        two.take(one.pay(1, 3))
        two.pay(0, 1)
        self.assertEqual(one.kept, [((0, 1), 10, (1, 0))])
        self.assertEqual(two.kept, [((0, 1), 10, (1, 0))])

    def test_what_is_handed_over_behind_a_cut_is_not_in_it(self):
        one, two = offices(2, 10)
        first, cut, second = sent_by(one, [("pay", 1, 1), CUT, ("pay", 1, 2)])
        self.assertEqual(taken_by(two, [second, cut, first])[2], [(0, 1), (0, 2), (0, 3)])
        self.assertEqual(two.kept, [((0, 2), 11, (2, 0))])
        self.assertEqual(two.coins, 13)

    def test_cuts_are_kept_in_the_order_in_which_they_came(self):
        one, two, three = offices(3, 10)
        cut, other = one.cut(), two.cut()
        one.take(other)
        two.take(cut)
        taken_by(three, [other, cut])
        self.assertEqual(one.kept, [((0, 1), 10, (1, 0, 0)), ((1, 1), 10, (1, 1, 0))])
        self.assertEqual(two.kept, [((1, 1), 10, (0, 1, 0)), ((0, 1), 10, (1, 1, 0))])
        self.assertEqual(three.kept, [((1, 1), 10, (0, 1, 0)), ((0, 1), 10, (1, 1, 0))])

    def test_a_cut_that_comes_several_times_is_kept_once(self):
        one, two = offices(2, 10)
        cut = one.cut()
        taken_by(two, [cut, cut])
        one.take(cut)
        self.assertEqual((len(one.kept), len(two.kept)), (1, 1))

    def test_payments_are_not_kept_as_cuts(self):
        one, two = offices(2, 10)
        two.take(one.pay(1, 4))
        self.assertEqual((one.kept, two.kept), ([], []))


class Lists(unittest.TestCase):
    def test_sent_by(self):
        office = Office(0, 3, 10)
        letters = sent_by(office, [("pay", 1, 4), CUT, ("pay", 2, 0), ("pay", 2, 6)])
        whats = [(1, ("pay", 1, 4)), (2, CUT), (3, ("pay", 2, 0)), (4, ("pay", 2, 6))]
        self.assertEqual(letters, [(0, (number, 0, 0), what) for number, what in whats])
        self.assertEqual((office.coins, office.clock), (0, (4, 0, 0)))
        self.assertEqual(office.kept, [((0, 2), 6, (2, 0, 0))])

    def test_sent_by_has_none_for_a_refused_one_and_goes_on(self):
        office = Office(0, 2, 5)
        letters = sent_by(office, [("pay", 1, 6), ("pay", 1, 3), ("pay", 1, 3), CUT, ("pay", 1, 2)])
        sent = [(0, (1, 0), ("pay", 1, 3)), (0, (2, 0), CUT), (0, (3, 0), ("pay", 1, 2))]
        self.assertEqual(letters, [None, sent[0], None, sent[1], sent[2]])
        self.assertEqual((office.coins, office.clock), (0, (3, 0)))
        self.assertEqual(office.book, [("sent", (0, number)) for number in (1, 2, 3)])

    def test_taken_by(self):
        one, two = offices(2, 10)
        letters = sent_by(one, [("pay", 1, 1), CUT, ("pay", 1, 2)])
        answers = taken_by(two, [letters[0], letters[2], letters[0], letters[1]])
        self.assertEqual(answers, [[(0, 1)], [], [], [(0, 2), (0, 3)]])
        self.assertEqual((two.coins, two.tray), (13, []))

    def test_empty_lists(self):
        office = Office(0, 2, 10)
        self.assertEqual(sent_by(office, []), [])
        self.assertEqual(taken_by(office, []), [])
        self.assertEqual(state(office), (0, 10, (0, 0), [], [], []))


class NothingIsShared(unittest.TestCase):
    def test_the_lists_handed_in_are_not_changed(self):
        one, two = offices(2, 3)
        whats = [("pay", 1, 1), ("pay", 1, 9), CUT]
        letters = [letter for letter in sent_by(one, whats) if letter is not None][::-1]
        same = list(letters)
        taken_by(two, letters)
        self.assertEqual(whats, [("pay", 1, 1), ("pay", 1, 9), CUT])
        self.assertEqual(letters, same)

    def test_the_lists_handed_in_are_not_kept(self):
        one, two = offices(2, 3)
        whats = [("pay", 1, 1), CUT, ("pay", 1, 2)]
        letters = sent_by(one, whats)
        kept_back = letters[0]
        brought = letters[1:]
        taken_by(two, brought)
        had = (state(one), state(two))
        for given in (whats, brought, letters):
            given.clear()
        self.assertEqual((state(one), state(two)), had)
        self.assertEqual(two.take(kept_back), [(0, 1), (0, 2), (0, 3)])

    def test_the_lists_told_are_not_kept(self):
        one, two = offices(2, 9)
        letters = sent_by(one, [CUT, ("pay", 1, 1), CUT, CUT])
        copies = list(letters)
        answers = taken_by(two, [letters[1], letters[0], letters[3]])
        told = two.take(letters[2])
        self.assertEqual(told, [(0, 3), (0, 4)])
        had = (state(one), state(two))
        for answer in answers:
            answer.append((5, 5))
        for given in (answers, told, letters):
            given.clear()
        self.assertEqual((state(one), state(two)), had)
        self.assertEqual(taken_by(two, copies), [[]] * 4)
        self.assertEqual(two.take(one.cut()), [(0, 5)])

    def test_the_answers_are_lists_of_their_own(self):
        office = Office(1, 2, 9)
        first, second = office.take((0, (2, 0), CUT)), office.take((0, (2, 0), CUT))
        first.append("mine")
        self.assertEqual(second, [])
        self.assertEqual(office.take((0, (2, 0), CUT)), [])

    def test_a_list_read_earlier_stays_as_it_was(self):
        one, two = offices(2, 9)
        letters = sent_by(one, [CUT, CUT])
        two.take(letters[1])
        book, tray, kept = two.book, two.tray, two.kept
        two.take(letters[0])
        self.assertEqual((book, tray, kept), ([], [letters[1]], []))
        for given in (book, tray, kept):
            given.append("mine")
        self.assertEqual(two.book, [("got", (0, 1)), ("got", (0, 2))])
        self.assertEqual(two.tray, [])
        self.assertEqual(two.kept, [((0, 1), 9, (1, 0)), ((0, 2), 9, (2, 0))])

    def test_an_offices_own_tray_brought_to_it(self):
        one, two = offices(2, 9)
        letters = sent_by(one, [CUT, CUT, CUT])
        taken_by(two, letters[1:])
        self.assertEqual(taken_by(two, two.tray), [[], []])
        self.assertEqual(two.tray, letters[1:])

    def test_a_letter_goes_to_several_offices_unchanged(self):
        one, two, three = offices(3, 9)
        letter = one.pay(1, 2)
        two.take(letter)
        three.take(letter)
        two.pay(0, 1)
        self.assertEqual(letter, (0, (1, 0, 0), ("pay", 1, 2)))

    def test_kinds(self):
        one, two = offices(2, 9)
        letter = one.pay(1, 2)
        self.assertEqual([type(part) for part in (letter, letter[1], letter[2])], [tuple] * 3)
        cut = one.cut()
        names = taken_by(two, [letter, cut])[1]
        self.assertIs(type(names), list)
        for part in (names[0], two.clock, two.book[0], two.book[0][1], two.kept[0]):
            self.assertIs(type(part), tuple)
        self.assertEqual([type(part) for part in two.kept[0]], [tuple, int, tuple])


if __name__ == "__main__":
    unittest.main()
