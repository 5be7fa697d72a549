"""Cuts: what all offices kept of one, what is under way by it, and the order that passes through it."""

from postbooks.clocks import is_there, name_of
from postbooks.errors import NoCut


def states(all_kept, name):
    return [state_in(kept, name) for kept in all_kept]


def state_in(kept, name):
    for one in kept:
        if one[0] == name:
            return (one[1], one[2])
    raise NoCut("an office has not kept that cut")


def under_way(letters, cut):
    sent = [letter for letter in letters if is_sent(letter, cut)]
    pairs = [(name_of(letter), offices_without(letter, cut)) for letter in sent]
    return [pair for pair in pairs if pair[1] != []]


def coins_under_way(letters, cut):
    return sum([coins_on_the_way(letter, cut) for letter in letters])


def is_there_at(letter, cut, office):
    return is_there(name_of(letter), cut[office][1])


def is_sent(letter, cut):
    return is_there_at(letter, cut, letter[0])


def offices_without(letter, cut):
    return [office for office in range(len(cut)) if not is_there_at(letter, cut, office)]


# The payment alone counts here, not the letter: its coins have arrived
# where the office that is paid has it, whichever others still wait for it.
def coins_on_the_way(letter, cut):
    what = letter[2]
    if what[0] != "pay" or not is_sent(letter, cut) or is_there_at(letter, cut, what[1]):
        return 0
    return what[2]


def through(events, name, count):
    lasts = [place_kept(events, name, office) for office in range(count)]
    first = [event for place, event in enumerate(events) if place <= lasts[event[1]]]
    others = [event for place, event in enumerate(events) if place > lasts[event[1]]]
    return (first + others, len(first))


def place_kept(events, name, office):
    for place, event in enumerate(events):
        if event[1] == office and event[2] == name:
            return place
    raise NoCut("an office has no event with the letter of that cut")
