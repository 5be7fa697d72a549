"""An office: its coins, its clock, its book, its tray and the cuts that it has kept."""

from postbooks.clocks import counted, is_there, name_of, ready
from postbooks.errors import Poor


# The lists of an office are made anew at each change, so that a list
# that was read from it stays as it was, and can be walked meanwhile.
class Office:
    def __init__(self, number, count, coins):
        self.number = number
        self.coins = coins
        self.clock = (0,) * count
        self.book = []
        self.tray = []
        self.kept = []

    def pay(self, to, many):
        if self.coins < many:
            raise Poor("an office pays no more coins than it has")
        self.coins = self.coins - many
        return self.send(("pay", to, many))

    def cut(self):
        return self.send(("cut",))

    def take(self, letter):
        if self.is_new(letter):
            self.tray = self.tray + [letter]
        names = []
        place = first_ready(self.tray, self.clock)
        while place is not None:
            names.append(self.hand_over(place))
            place = first_ready(self.tray, self.clock)
        return names

    def send(self, what):
        self.clock = counted(self.clock, self.number)
        letter = (self.number, self.clock, what)
        self.write_in_book("sent", letter)
        return letter

    def is_new(self, letter):
        name = name_of(letter)
        return not is_there(name, self.clock) and name not in [name_of(other) for other in self.tray]

    def hand_over(self, place):
        letter = self.tray[place]
        self.tray = self.tray[:place] + self.tray[place + 1:]
        self.clock = counted(self.clock, letter[0])
        self.coins = self.coins + coins_for(self.number, letter[2])
        self.write_in_book("got", letter)
        return name_of(letter)

    # Called once the letter is counted: a cut is kept with its own letter in the clock.
    def write_in_book(self, how, letter):
        name = name_of(letter)
        self.book = self.book + [(how, name)]
        if letter[2][0] == "cut":
            self.kept = self.kept + [(name, self.coins, self.clock)]


def first_ready(tray, clock):
    for place in range(len(tray)):
        if ready(tray[place], clock):
            return place
    return None


def coins_for(number, what):
    if what[0] == "pay" and what[1] == number:
        return what[2]
    return 0


def sent_by(office, whats):
    letters = []
    for what in whats:
        letters.append(sent_or_none(office, what))
    return letters


def sent_or_none(office, what):
    if what[0] == "cut":
        return office.cut()
    try:
        return office.pay(what[1], what[2])
    except Poor:
        return None


def taken_by(office, letters):
    answers = []
    for letter in letters:
        answers.append(office.take(letter))
    return answers
