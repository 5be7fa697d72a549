"""Many stories, each held against a model that knows no clocks, and every cut of theirs.

In the model an office has a plain list of the letters it had, and a letter bears the list of those
that its sender had. The chances are drawn from fixed seeds, so every run is the same.
"""

import random
import unittest

from postbooks.cuts import coins_under_way, states, through, under_way
from postbooks.errors import NoCut
from postbooks.lines import read, shown
from postbooks.story import books, ends, events_of, kept_of, letters_of, story


def deed_of(chance, count, coins, sent):
    who = chance.randrange(count)
    choice = chance.randrange(12)
    if choice == 0:
        return ("cut", who)
    if choice == 1:
        return ("bring", who)
    if choice < 5:
        to = (who + chance.randrange(1, count)) % count
        return ("pay", who, to, chance.choice((0, 1, chance.randrange(coins + 1), coins)))
    return ("carry", chance.randrange(sent + 2), who)


def drawn(seed, count, length):
    chance = random.Random(seed)
    coins = chance.choice((1, 7, 10 ** 100 + 3))
    deeds = []
    for number in range(length):
        deeds.append(deed_of(chance, count, coins, sum(deed[0] in ("pay", "cut") for deed in deeds)))
    return (count, coins, deeds)


class Model:
    def __init__(self, count, coins, deeds):
        self.coins = [coins] * count
        self.had = [[] for number in range(count)]
        self.trays = [[] for number in range(count)]
        self.sent = []
        self.events = []
        self.kept = [[] for number in range(count)]
        self.answers = [self.do(*deed) for deed in deeds]

    def do(self, word, *rest):
        if word == "pay":
            return self.send(rest[0], ("pay",) + rest[1:])
        if word == "cut":
            return self.send(rest[0], ("cut",))
        if word == "bring":
            return [name for letter in reversed(self.sent) for name in self.bring(letter, rest[0])]
        return self.bring(self.sent[rest[0]], rest[1]) if rest[0] < len(self.sent) else None

    def send(self, who, what):
        if what[0] == "pay" and what[2] > self.coins[who]:
            return None
        name = (who, 1 + sum(letter[0][0] == who for letter in self.sent))
        self.sent.append((name, list(self.had[who]), what))
        self.coins[who] -= what[2] if what[0] == "pay" else 0
        self.write("sent", who, self.sent[-1])
        return name

    def write(self, how, who, letter):
        self.had[who].append(letter[0])
        self.events.append((how, who, letter[0]))
        if letter[2] == ("cut",):
            self.kept[who].append((letter[0], self.coins[who], list(self.had[who])))

    def bring(self, letter, to):
        if letter[0] not in self.had[to] and letter not in self.trays[to]:
            self.trays[to].append(letter)
        names = []
        while True:
            free = [one for one in self.trays[to] if set(one[1]) <= set(self.had[to])]
            if not free:
                return names
            self.trays[to].remove(free[0])
            if free[0][2][:2] == ("pay", to):
                self.coins[to] += free[0][2][2]
            self.write("got", to, free[0])
            names.append(free[0][0])


def counts(names, count):
    return tuple(sum(name[0] == number for name in names) for number in range(count))


class Stories(unittest.TestCase):
    @classmethod
    def setUpClass(cls):
        sizes = [(2, 30), (3, 60), (4, 100), (5, 100), (12, 100), (14, 130)]
        cls.told = [drawn(seed, *sizes[seed % len(sizes)]) for seed in range(90)]
        cls.models = [Model(*told) for told in cls.told]

    def pairs(self):
        return list(zip(self.told, self.models))

    def cuts(self):
        for told, model in self.pairs():
            for name, had, what in model.sent:
                if what == ("cut",) and all(name in names for names in model.had):
                    yield told, model, name

    def test_the_stories_hold_what_is_asked_for(self):
        self.assertGreater(len(list(self.cuts())), 50)
        self.assertGreater(max(len(model.sent) for model in self.models), 40)
        self.assertTrue(any(answer is None for model in self.models for answer in model.answers))
        self.assertTrue(any(len(tray) > 2 for model in self.models for tray in model.trays))
        ways = [under_way(letters_of(*told), states(kept_of(*told), name)) for told, model, name in self.cuts()]
        self.assertTrue(any(len(offices) > 1 for way in ways for name, offices in way))

    def test_answers_and_events(self):
        for told, model in self.pairs():
            self.assertEqual(story(*told), model.answers)
            self.assertEqual(events_of(*told), model.events)

    def test_letters(self):
        for told, model in self.pairs():
            letters = [(name[0], counts(had + [name], told[0]), what) for name, had, what in model.sent]
            self.assertEqual(letters_of(*told), letters)
            self.assertEqual([read(shown(letter)) for letter in letters], letters)

    def test_ends_books_and_cuts_kept(self):
        for told, model in self.pairs():
            clocks = [counts(names, told[0]) for names in model.had]
            self.assertEqual(ends(*told), list(zip(model.coins, clocks, [len(tray) for tray in model.trays])))
            theirs = [[(how, name) for how, who, name in model.events if who == number] for number in range(told[0])]
            self.assertEqual(books(*told), theirs)
            kept = [[(name, coins, counts(had, told[0])) for name, coins, had in one] for one in model.kept]
            self.assertEqual(kept_of(*told), kept)

    def test_cuts_that_not_all_have_kept(self):
        for told, model in self.pairs():
            for name, had, what in model.sent:
                if not all(name in names for names in model.had):
                    self.assertRaises(NoCut, through, model.events, name, told[0])
                    self.assertRaises(NoCut, states, kept_of(*told), name)
                elif what != ("cut",):
                    self.assertRaises(NoCut, states, kept_of(*told), name)

    def test_what_is_under_way(self):
        for told, model, name in self.cuts():
            had = [dict((one[0], one[2]) for one in kept)[name] for kept in model.kept]
            way, coins = [], 0
            for letter, before_it, what in model.sent:
                if letter in had[letter[0]]:
                    offices = [number for number in range(told[0]) if letter not in had[number]]
                    way += [(letter, offices)] if offices else []
                    coins += what[2] if what[0] == "pay" and what[1] in offices else 0
            cut = states(kept_of(*told), name)
            self.assertEqual(under_way(letters_of(*told), cut), way)
            self.assertEqual(coins_under_way(letters_of(*told), cut), coins)
            self.assertEqual(sum(state[0] for state in cut) + coins, told[0] * told[1])

    def test_the_order_that_passes_through_a_cut(self):
        for told, model, name in self.cuts():
            order, many = through(model.events, name, told[0])
            self.assertEqual(sorted(order), sorted(model.events))
            for part in (order[:many], order[many:]):
                self.assertEqual(part, [event for event in model.events if event in part])
            for number in range(told[0]):
                theirs = [event for event in order if event[1] == number]
                self.assertEqual(theirs, [event for event in model.events if event[1] == number])
                first = [event for event in order[:many] if event[1] == number]
                self.assertEqual(first[-1][2], name)

    def test_that_order_done_once_more_comes_to_what_was_kept(self):
        for told, model, name in self.cuts():
            order, many = through(model.events, name, told[0])
            by_name = {letter[0]: letter for letter in model.sent}
            coins, had = [told[1]] * told[0], [[] for number in range(told[0])]
            for place, (how, who, letter) in enumerate(order):
                self.assertLessEqual(set(by_name[letter][1]), set(had[who]))
                self.assertTrue(how == "sent" or letter in had[letter[0]])
                had[who].append(letter)
                what = by_name[letter][2]
                if what[0] == "pay" and how == "sent":
                    coins[who] -= what[2]
                if what[0] == "pay" and how == "got" and what[1] == who:
                    coins[who] += what[2]
                self.assertGreaterEqual(coins[who], 0)
                if place == many - 1:
                    there = [(coins[number], counts(had[number], told[0])) for number in range(told[0])]
                    self.assertEqual(states(kept_of(*told), name), there)


if __name__ == "__main__":
    unittest.main()
