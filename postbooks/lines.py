"""Lines: letters written as texts, and read again."""

from postbooks.errors import NoLetter

FIGURES = "0123456789"


def shown(letter):
    stamp = ".".join([figures_of(number) for number in letter[1]])
    return " ".join([figures_of(letter[0]), stamp] + words_of(letter[2]))


def words_of(what):
    if what[0] == "cut":
        return ["cut"]
    return ["pay", figures_of(what[1]), figures_of(what[2])]


# Figure by figure, here and in number_in: Python's own ways between numbers
# and texts give up at some thousand figures, with an error of their own.
def figures_of(number):
    text = FIGURES[number % 10]
    while number >= 10:
        number = number // 10
        text = FIGURES[number % 10] + text
    return text


def read(line):
    parts = line.split(" ")
    if len(parts) < 3:
        raise NoLetter("a line has a sender, a stamp and what the letter tells")
    sender = number_in(parts[0])
    stamp = tuple([number_in(part) for part in parts[1].split(".")])
    what = what_in(parts[2:])
    if not is_stamped(sender, stamp):
        raise NoLetter("a stamp is of two offices or more and counts a letter of the sender")
    if not is_for_others(what, sender, len(stamp)):
        raise NoLetter("a payment goes to another one of the offices")
    return (sender, stamp, what)


def what_in(words):
    if words == ["cut"]:
        return ("cut",)
    if words[0] == "pay" and len(words) == 3:
        return ("pay", number_in(words[1]), number_in(words[2]))
    raise NoLetter("a letter tells a payment or a cut")


def number_in(text):
    if not is_number(text):
        raise NoLetter("a number is written in figures, without a nought ahead")
    number = 0
    for figure in text:
        number = number * 10 + FIGURES.index(figure)
    return number


# isdigit won't do: it takes the figures of other scripts too.
def is_number(text):
    if text == "" or not all([sign in FIGURES for sign in text]):
        return False
    return text == "0" or text[0] != "0"


def is_stamped(sender, stamp):
    return len(stamp) >= 2 and sender < len(stamp) and stamp[sender] >= 1


def is_for_others(what, sender, count):
    return what[0] == "cut" or (what[1] != sender and what[1] < count)
