"""Stories: deeds done one after the other among offices, and what comes of them."""

from postbooks.clocks import name_of
from postbooks.office import Office, sent_or_none, taken_by


# Each question about a story makes a course of its own and drops it afterwards,
# so the lists of a course can be told as they are, without a copy.
class Course:
    def __init__(self, count, coins):
        self.offices = [Office(number, count, coins) for number in range(count)]
        self.letters = []
        self.events = []
        self.answers = []

    def do(self, deed):
        self.answers.append(self.answer_to(deed))

    def answer_to(self, deed):
        if deed[0] == "pay":
            return self.letter_sent(deed[1], ("pay", deed[2], deed[3]))
        if deed[0] == "cut":
            return self.letter_sent(deed[1], ("cut",))
        if deed[0] == "carry":
            return self.letter_carried(deed[1], deed[2])
        return self.letters_brought(deed[1], self.letters[::-1])

    def letter_sent(self, who, what):
        letter = sent_or_none(self.offices[who], what)
        if letter is None:
            return None
        name = name_of(letter)
        self.letters.append(letter)
        self.events.append(("sent", who, name))
        return name

    def letter_carried(self, which, to):
        if 0 <= which < len(self.letters):
            return self.letters_brought(to, [self.letters[which]])
        return None

    def letters_brought(self, to, letters):
        names = []
        for answer in taken_by(self.offices[to], letters):
            names.extend(answer)
        self.events.extend([("got", to, name) for name in names])
        return names


def course_of(count, coins, deeds):
    course = Course(count, coins)
    for deed in deeds:
        course.do(deed)
    return course


def story(count, coins, deeds):
    return course_of(count, coins, deeds).answers


def letters_of(count, coins, deeds):
    return course_of(count, coins, deeds).letters


def events_of(count, coins, deeds):
    return course_of(count, coins, deeds).events


def ends(count, coins, deeds):
    offices = course_of(count, coins, deeds).offices
    return [(office.coins, office.clock, len(office.tray)) for office in offices]


def books(count, coins, deeds):
    return [office.book for office in course_of(count, coins, deeds).offices]


def kept_of(count, coins, deeds):
    return [office.kept for office in course_of(count, coins, deeds).offices]
